import Derived.Test.YtbmcofdodfcnnaaGreatDoorGVF
import Derived.Test.YtbmcofdodfcnnaaGreatDoorGQ
set_option linter.all false
set_option maxHeartbeats 400000000
set_option maxRecDepth 100000
namespace Go.Proofs.YtbmcofdodfcnnaaGreatDoor
open Pn
open Go.Proofs.Tryz
open Go.RowKit
def a2f (P:Nat) (o:Option (Pn.Ins×List UInt8)) (w:World) (e:Ending) (w':World):Prop:=
 e=.returned (.bool o.isSome)/\a3c P none w w'/\∀s,o=some s->CellsAt P (a0f s.1 s.2) w'
theorem b3c (P:Nat) (i:Pn.Ins) (tg:List UInt8) (k:Int) (t:ByteArray) (w:World) (ht:t.size<=2000) (hE:Env w) (hC:CellsAt P (a0f i tg) w):
    Calls prog 223 #[.pointer (some ⟨P,0,none⟩),.int .i32 100,.agg #[.int .i64 k,.string t]] w fun e w'=>a2f P (a1i 100 k t.data.toList i tg) w e w':=by
 have HE:=a0a (fun o=>hE.alloc o)
 have HC:=a0a hC;go_enter func223,ntmps223;go_wp2_with fail;refine (a3f k t _ ht (HE.out _)).mono ?_;rintro e w1 ⟨rfl,hB⟩;have HB:=a0a (((Below.refl w.heap.size w).alloc (Nat.le_refl _) _).trans (hB.mono (by simp)))
 have HC1:=a0a (CellsAt.next HC.out HB.out);obtain ⟨hz,yf,yc⟩:=HC1.out;have y2:=yc 2 _ rfl;clear hB yc;have HS:Hid (a1i 100 k t.data.toList i tg=(a2l t.data.toList).map fun n=>({ i with rd:=n },tg)):=rfl
 generalize a2l t.data.toList=q at *;go_wp2_with fail;go_ret;refine ⟨?_,(a3c.of_below HB.out).trans (a3c.setCell P none _ _ _),fun s hs=>?_⟩
 ·rw[HS.out];cases q<;>rfl
 ·rw[HS.out]at hs
  cases q with
  | none=>cases hs
  | some n=>cases hs;exact CellsAt.set HC1.out 2 _ (by simp[a0f])
theorem b26 (P:Nat) (i:Pn.Ins) (tg:List UInt8) (k:Int) (t:ByteArray) (w:World) (ht:t.size<=2000) (hE:Env w) (hC:CellsAt P (a0f i tg) w):
    Calls prog 223 #[.pointer (some ⟨P,0,none⟩),.int .i32 115,.agg #[.int .i64 k,.string t]] w fun e w'=>a2f P (a1i 115 k t.data.toList i tg) w e w':=by
 have HE:=a0a (fun o=>hE.alloc o)
 have HC:=a0a hC;go_enter func223,ntmps223;go_wp2_with fail;refine (a3f k t _ ht (HE.out _)).mono ?_;rintro e w1 ⟨rfl,hB⟩;have HB:=a0a (((Below.refl w.heap.size w).alloc (Nat.le_refl _) _).trans (hB.mono (by simp)))
 have HC1:=a0a (CellsAt.next HC.out HB.out);obtain ⟨hz,yf,yc⟩:=HC1.out;have y2:=yc 3 _ rfl;clear hB yc;have HS:Hid (a1i 115 k t.data.toList i tg=(a2l t.data.toList).map fun n=>({ i with rs1:=n },tg)):=rfl
 generalize a2l t.data.toList=q at *;go_wp2_with fail;go_ret;refine ⟨?_,(a3c.of_below HB.out).trans (a3c.setCell P none _ _ _),fun s hs=>?_⟩
 ·rw[HS.out];cases q<;>rfl
 ·rw[HS.out]at hs
  cases q with
  | none=>cases hs
  | some n=>cases hs;exact CellsAt.set HC1.out 3 _ (by simp[a0f])
theorem b3k (P:Nat) (i:Pn.Ins) (tg:List UInt8) (k:Int) (t:ByteArray) (w:World) (ht:t.size<=2000) (hE:Env w) (hC:CellsAt P (a0f i tg) w):
    Calls prog 223 #[.pointer (some ⟨P,0,none⟩),.int .i32 116,.agg #[.int .i64 k,.string t]] w fun e w'=>a2f P (a1i 116 k t.data.toList i tg) w e w':=by
 have HE:=a0a (fun o=>hE.alloc o)
 have HC:=a0a hC;go_enter func223,ntmps223;go_wp2_with fail;refine (a3f k t _ ht (HE.out _)).mono ?_;rintro e w1 ⟨rfl,hB⟩;have HB:=a0a (((Below.refl w.heap.size w).alloc (Nat.le_refl _) _).trans (hB.mono (by simp)))
 have HC1:=a0a (CellsAt.next HC.out HB.out);obtain ⟨hz,yf,yc⟩:=HC1.out;have y2:=yc 4 _ rfl;clear hB yc;have HS:Hid (a1i 116 k t.data.toList i tg=(a2l t.data.toList).map fun n=>({ i with rs2:=n },tg)):=rfl
 generalize a2l t.data.toList=q at *;go_wp2_with fail;go_ret;refine ⟨?_,(a3c.of_below HB.out).trans (a3c.setCell P none _ _ _),fun s hs=>?_⟩
 ·rw[HS.out];cases q<;>rfl
 ·rw[HS.out]at hs
  cases q with
  | none=>cases hs
  | some n=>cases hs;exact CellsAt.set HC1.out 4 _ (by simp[a0f])
theorem b3w (P:Nat) (i:Pn.Ins) (tg:List UInt8) (k:Int) (t:ByteArray) (w:World) (ht:t.size<=2000) (hE:Env w) (hC:CellsAt P (a0f i tg) w):
    Calls prog 223 #[.pointer (some ⟨P,0,none⟩),.int .i32 105,.agg #[.int .i64 k,.string t]] w fun e w'=>a2f P (a1i 105 k t.data.toList i tg) w e w':=by
 have HE:=a0a (fun o=>hE.alloc o)
 have HC:=a0a hC;go_enter func223,ntmps223;go_wp2_with fail;have HS:Hid (a1i 105 k t.data.toList i tg=(a4U k t.data.toList).map fun n=>({ i with imm:=n },tg)):=rfl
 refine (a6l k t _ ht (HE.out _)).mono ?_;rintro e w1 ⟨n,rfl,hn,hB⟩;have HB:=a0a (((Below.refl w.heap.size w).alloc (Nat.le_refl _) _).trans (hB.mono (by simp)))
 have HC1:=a0a (CellsAt.next HC.out HB.out);obtain ⟨hz,yf,yc⟩:=HC1.out;have y2:=yc 5 _ rfl;have HN:=a0a hn;clear hB yc hn;generalize a4U k t.data.toList=q at *;go_wp2_with fail;go_ret;refine ⟨?_,(a3c.of_below HB.out).trans (a3c.setCell P none _ _ _),fun s hs=>?_⟩
 ·rw[HS.out];cases q<;>rfl
 ·rw[HS.out]at hs
  cases q with
  | none=>cases hs
  | some v=>cases hs;have:=HN.out v rfl;subst this;exact CellsAt.set HC1.out 5 _ (by simp[a0f])
theorem b10 (P:Nat) (i:Pn.Ins) (tg:List UInt8) (k:Int) (t:ByteArray) (w:World) (ht:t.size<=2000) (hE:Env w) (hC:CellsAt P (a0f i tg) w) (hn:a4x k t.data.toList=false):
    Calls prog 223 #[.pointer (some ⟨P,0,none⟩),.int .i32 112,.agg #[.int .i64 k,.string t]] w fun e w'=>a2f P (a1i 112 k t.data.toList i tg) w e w':=by
 have HE:=a0a (fun o=>hE.alloc o)
 have HC:=a0a hC;go_enter func223,ntmps223;go_wp2_with fail;have HS:Hid (a1i 112 k t.data.toList i tg=(a4U k t.data.toList).map fun n=>({ i with imm:=n },tg)):=by show (if a4x k t.data.toList then some (i,t.data.toList) else _)=_;rw[hn];rfl
 refine (a3K k t _ ht).mono ?_;rintro e w0 ⟨rfl,hB0⟩;rw[hn];have hx:=(CellsAt.new w [.int .i64 k,.string t] 131).next hB0;have x0:=hx.2.2 0 _ rfl;have x1:=hx.2.2 1 _ rfl;have HB0:=a0a hB0;have HE0:Hid (Env w0):=Env.below (HE.out _) hB0 (HE.out _).1;clear hB0 hx;go_wp2_with fail;refine (a6l k t _ ht HE0.out).mono ?_;rintro e w1 ⟨n,rfl,hn',hB⟩;have HB:=a0a ((((Below.refl w.heap.size w).alloc (Nat.le_refl _) _).trans (HB0.out.mono (by simp))).trans (hB.mono (by have:=HB0.out.size;simp at this;omega)))
 have HC1:=a0a (CellsAt.next HC.out HB.out);obtain ⟨hz,yf,yc⟩:=HC1.out;have y2:=yc 5 _ rfl;have HN:=a0a hn';clear hB yc hn';generalize a4U k t.data.toList=q at *;go_wp2_with fail;go_ret;refine ⟨?_,(a3c.of_below HB.out).trans (a3c.setCell P none _ _ _),fun s hs=>?_⟩
 ·rw[HS.out];cases q<;>rfl
 ·rw[HS.out]at hs
  cases q with
  | none=>cases hs
  | some v=>cases hs;have:=HN.out v rfl;subst this;exact CellsAt.set HC1.out 5 _ (by simp[a0f])
theorem b1t (P:Nat) (i:Pn.Ins) (tg:List UInt8) (k:Int) (t:ByteArray) (w:World) (ht:t.size<=2000) (hC:CellsAt P (a0f i tg) w) (hn:a4x k t.data.toList=true):
    Calls prog 223 #[.pointer (some ⟨P,0,none⟩),.int .i32 112,.agg #[.int .i64 k,.string t]] w fun e w'=>a2f P (a1i 112 k t.data.toList i tg) w e w':=by
 have HC:=a0a hC;have HS:Hid (a1i 112 k t.data.toList i tg=some (i,t.data.toList)):=by show (if a4x k t.data.toList then some (i,t.data.toList) else _)=_;rw[hn];rfl
 go_enter func223,ntmps223;go_wp2_with fail;refine (a3K k t _ ht).mono ?_;rintro e w0 ⟨rfl,hB0⟩;rw[hn];have hx:=(CellsAt.new w [.int .i64 k,.string t] 131).next hB0;have x0:=hx.2.2 0 _ rfl;have x1:=hx.2.2 1 _ rfl;have HB0:=a0a (((Below.refl w.heap.size w).alloc (Nat.le_refl _) _).trans (hB0.mono (by simp)))
 have HC1:=a0a (CellsAt.next HC.out HB0.out);obtain ⟨hz,yf,yc⟩:=HC1.out;have y2:=yc 6 _ rfl;clear hB0 hx yc;go_wp2_with fail;go_ret;refine ⟨by rw[HS.out];rfl,(a3c.of_below HB0.out).trans (a3c.setCell P none _ _ _),fun s hs=>?_⟩
 rw[HS.out]at hs;cases hs
 exact CellsAt.set HC1.out 6 _ (by simp[a0f])
theorem b1E (P:Nat) (i:Pn.Ins) (tg:List UInt8) (k:Int) (t:ByteArray) (w:World) (hC:CellsAt P (a0f i tg) w):
    Calls prog 223 #[.pointer (some ⟨P,0,none⟩),.int .i32 44,.agg #[.int .i64 k,.string t]] w fun e w'=>a2f P (a1i 44 k t.data.toList i tg) w e w':=by
 have HC:=a0a hC;have HS:Hid (a1i 44 k t.data.toList i tg=if t.data.toList=[44] then some (i,tg) else none):=rfl;go_enter func223,ntmps223;go_wp2_with fail;go_ret;have hB:Below w.heap.size w (w.alloc (.cells #[.int .i64 k,.string t] 131)):=(Below.refl _ _).alloc (Nat.le_refl _) _;refine ⟨?_,a3c.of_below hB,fun s hs=>?_⟩
 ·rw[HS.out]
  refine a1r (congrArg Value.bool ?_);have hen:Utf8.encode 44=⟨#[44]⟩:=by rfl
  by_cases h:t.data.toList=[44]
  ·rw[if_pos h];show (t.toList==(Utf8.encode 44).toList)=true
   rw[hen,ByteArray.toList_eq,ByteArray.toList_eq,h];rfl
  ·rw[if_neg h];show (t.toList==(Utf8.encode 44).toList)=false
   rw[hen,ByteArray.toList_eq,ByteArray.toList_eq];exact beq_false_of_ne h
 ·rw[HS.out]at hs
  split at hs
  ·cases hs;exact CellsAt.next HC.out hB
  ·cases hs
theorem b2l (P:Nat) (i:Pn.Ins) (tg:List UInt8) (k:Int) (t:ByteArray) (w:World) (hC:CellsAt P (a0f i tg) w):
    Calls prog 223 #[.pointer (some ⟨P,0,none⟩),.int .i32 40,.agg #[.int .i64 k,.string t]] w fun e w'=>a2f P (a1i 40 k t.data.toList i tg) w e w':=by
 have HC:=a0a hC;have HS:Hid (a1i 40 k t.data.toList i tg=if t.data.toList=[40] then some (i,tg) else none):=rfl;go_enter func223,ntmps223;go_wp2_with fail;go_ret;have hB:Below w.heap.size w (w.alloc (.cells #[.int .i64 k,.string t] 131)):=(Below.refl _ _).alloc (Nat.le_refl _) _;refine ⟨?_,a3c.of_below hB,fun s hs=>?_⟩
 ·rw[HS.out]
  refine a1r (congrArg Value.bool ?_);have hen:Utf8.encode 40=⟨#[40]⟩:=by rfl
  by_cases h:t.data.toList=[40]
  ·rw[if_pos h];show (t.toList==(Utf8.encode 40).toList)=true
   rw[hen,ByteArray.toList_eq,ByteArray.toList_eq,h];rfl
  ·rw[if_neg h];show (t.toList==(Utf8.encode 40).toList)=false
   rw[hen,ByteArray.toList_eq,ByteArray.toList_eq];exact beq_false_of_ne h
 ·rw[HS.out]at hs
  split at hs
  ·cases hs;exact CellsAt.next HC.out hB
  ·cases hs
theorem b1n (P:Nat) (i:Pn.Ins) (tg:List UInt8) (k:Int) (t:ByteArray) (w:World) (hC:CellsAt P (a0f i tg) w):
    Calls prog 223 #[.pointer (some ⟨P,0,none⟩),.int .i32 41,.agg #[.int .i64 k,.string t]] w fun e w'=>a2f P (a1i 41 k t.data.toList i tg) w e w':=by
 have HC:=a0a hC;have HS:Hid (a1i 41 k t.data.toList i tg=if t.data.toList=[41] then some (i,tg) else none):=rfl;go_enter func223,ntmps223;go_wp2_with fail;go_ret;have hB:Below w.heap.size w (w.alloc (.cells #[.int .i64 k,.string t] 131)):=(Below.refl _ _).alloc (Nat.le_refl _) _;refine ⟨?_,a3c.of_below hB,fun s hs=>?_⟩
 ·rw[HS.out]
  refine a1r (congrArg Value.bool ?_);have hen:Utf8.encode 41=⟨#[41]⟩:=by rfl
  by_cases h:t.data.toList=[41]
  ·rw[if_pos h];show (t.toList==(Utf8.encode 41).toList)=true
   rw[hen,ByteArray.toList_eq,ByteArray.toList_eq,h];rfl
  ·rw[if_neg h];show (t.toList==(Utf8.encode 41).toList)=false
   rw[hen,ByteArray.toList_eq,ByteArray.toList_eq];exact beq_false_of_ne h
 ·rw[HS.out]at hs
  split at hs
  ·cases hs;exact CellsAt.next HC.out hB
  ·cases hs
theorem b2j (r:UInt8) (hr:a7b r) (P:Nat) (i:Pn.Ins) (tg:List UInt8) (k:Int) (t:ByteArray) (w:World) (ht:t.size<=2000) (hE:Env w) (hC:CellsAt P (a0f i tg) w):
    Calls prog 223 #[.pointer (some ⟨P,0,none⟩),.int .i32 r.toNat,.agg #[.int .i64 k,.string t]] w fun e w'=>a2f P (a1i r k t.data.toList i tg) w e w':=by
 rcases hr with rfl|rfl|rfl|rfl|rfl|rfl|rfl|rfl
 ·exact b3c P i tg k t w ht hE hC
 ·exact b26 P i tg k t w ht hE hC
 ·exact b3k P i tg k t w ht hE hC
 ·exact b3w P i tg k t w ht hE hC
 ·by_cases h:a4x k t.data.toList=true
  ·exact b1t P i tg k t w ht hC h
  ·exact b10 P i tg k t w ht hE hC (by simpa using h)
 ·exact b1E P i tg k t w hC
 ·exact b2l P i tg k t w hC
 ·exact b1n P i tg k t w hC
def a3Z (ao:Option Addr) (l:List Pn.Pc) (P:Nat) (w:World):Prop:=
 ∀i p,l[i]?=some p->∃g o,ao=some ⟨g,o,none⟩/\g<w.heap.size/\g≠P/\p.2.length<=2000/\w.cell? ⟨g,o+i*2,none⟩=some (.int .i64 p.1)/\w.cell? ⟨g,o+i*2+1,none⟩=some (.string ⟨p.2.toArray⟩)
theorem a3Z.keeps {ao:Option Addr} {l:List Pn.Pc} {P:Nat} {w w':World} (h:a3Z ao l P w) (hk:a3c P none w w'):a3Z ao l P w':=fun i p hi=>by
 obtain ⟨g,o,h1,h2,h3,h4,h5,h6⟩:=h i p hi;have e:=hk.block g h2 h3 (by simp)
 exact ⟨g,o,h1,Nat.lt_of_lt_of_le h2 hk.size,h3,h4,(World.cell?_of_block (a:=⟨g,_,none⟩) e).trans h5,(World.cell?_of_block (a:=⟨g,_,none⟩) e).trans h6⟩
theorem Env.keeps {P:Nat} {w w':World} (h:Env w) (hk:a3c P none w w') (hP:8<=P):Env w':=
 h.below (hk.below (Below.refl 8 w) hP (fun _ h=>by cases h) h.1) (Nat.le_refl _)
theorem a9z:∀(F:List UInt8) (l:List Pn.Pc) (i:Pn.Ins) (tg:List UInt8),l.length≠F.length->a0i F l i tg=none
 | [],[],_,_,h=>by simp at h
 | [],p::l,_,_,_=>by simp[a0i]
 | r::F,[],_,_,_=>by simp[a0i]
 | r::F,(k,t)::l,i,tg,h=>by
  simp only[a0i]
  cases a1i r k t i tg with
  | none=>rfl
  | some s=>exact a9z F l s.1 s.2 (by simpa using h)
def c9a (S:ByteArray) (l:List Pn.Pc) (i:Pn.Ins) (tg:List UInt8) (P:Nat) (w wr:World):Prop:=
 ∃(j:Nat) (i':Pn.Ins) (tg':List UInt8),j<=S.size/\wr.heap[w.heap.size]?=some (.stringIter S j)/\CellsAt P (a0f i' tg') wr/\a3c P none w wr/\
  Hid (a0i S.data.toList l i tg=a0i (S.data.toList.drop j) (l.drop j) i' tg')
theorem b5T {P it:Nat} {w wr:World} (h:a3c P none w wr) (hit:w.heap.size<=it) (S:ByteArray) (p:Nat):a3c P none w (wr.iterAt it S p):=
 ⟨h.os,h.tape,h.output,by rw[Lib.iterAt_size];exact h.size,fun b hb h1 h2=>(Lib.iterAt_other wr it b S p (by omega)).trans (h.block b hb h1 h2)⟩
theorem a3s (S:ByteArray) (hS:∀r∈S.data.toList,a7b r) (hSz:S.size<=6) (P:Nat) (i:Pn.Ins) (tg:List UInt8) (l:List Pn.Pc) (ao:Option Addr) (cp:Nat) (w:World) (hE:Env w) (hP:8<=P)
    (hC:CellsAt P (a0f i tg) w) (hl:a3Z ao l P w):
    Calls prog 190 #[.pointer (some ⟨P,0,none⟩),.string S,.slice ao l.length cp] w fun e w'=>a2f P (a0i S.data.toList l i tg) w e w':=by
 have HE:=a0a hE;have HC:=a0a hC;have HL:=a0a hl;have hPw:=hC.1;clear hE hC hl;by_cases hne:((l.length:Int) != (S.size:Int))=true
 ·have HN:Hid (a0i S.data.toList l i tg=none):=a9z _ _ _ _ (by
   (have e:S.data.toList.length=S.size:=by simp);(have:¬(l.length:Int)=S.size:=by simpa using hne);omega)
  go_enter func190,ntmps190;go_wp2_with fail;go_ret;exact ⟨by rw[HN.out];rfl,a3c.refl _ _ _,fun s h=>by rw[HN.out]at h;cases h⟩
 ·have hne':((l.length:Int) != (S.size:Int))=false:=by simpa using hne
  have hle:l.length=S.size:=by
   (have:(l.length:Int)=S.size:=by simpa using hne');omega
  clear hne;go_enter func190,ntmps190;go_wp2_with fail;go_loopw [] (fun wr=>c9a S l i tg P w wr) (fun wr=>S.size-wr.iterPos w.heap.size)
  case atStart=>exact ⟨0,i,tg,by omega,World.iter_heap w S 0,CellsAt.alloc HC.out _,a3c.of_below ((Below.refl _ _).alloc (Nat.le_refl _) _),rfl⟩
  case round=>
   obtain ⟨j,i',tg',hj,hit,hC',hK,HM⟩:=hrel;by_cases hlt:j<S.size
   ·have hrl:a7b (S[j]'hlt):=hS _ (by show S.data[j]∈S.data.toList;exact Array.mem_toList_iff.2 (Array.getElem_mem _))
    have hasc:(S[j]'hlt).toNat<128:=by rcases hrl with h|h|h|h|h|h|h|h<;>(rw[h];decide)
    have hnx:∀ty,(Instr.next (.pointer (some ⟨w.heap.size,0,none⟩)) true ty).run prog wr=.ok (.tuple #[.bool true,.int .i64 j,.int .i32 (S[j]'hlt).toNat]) (wr.iterAt w.heap.size S (j+1)):=fun ty=>
     Lib.run_next_ascii_at wr w.heap.size S j ty hit hlt hasc
    (have hjl:j<l.length:=by omega);(have hlt2:(j:Int)<(l.length:Int):=by omega);obtain ⟨⟨k,t⟩,hpj⟩:∃p,l[j]?=some p:=⟨_,List.getElem?_eq_getElem hjl⟩
    have HDS:Hid (S.data.toList.drop j=(S[j]'hlt)::S.data.toList.drop (j+1)):=by
     show _=_;rw[List.drop_eq_getElem_cons (by simpa using hlt)];rfl
    have HDL:Hid (l.drop j=(k,t)::l.drop (j+1)):=by
     show _=_;rw[List.drop_eq_getElem_cons hjl];congr 1;rw[List.getElem?_eq_getElem hjl]at hpj;exact Option.some.inj hpj
    have hKi:=b5T hK (Nat.le_refl _) S (j+1);have hCi:CellsAt P (a0f i' tg') (wr.iterAt w.heap.size S (j+1)):=CellsAt.step hC' (a6A wr w.heap.size S (j+1)) hPw;obtain ⟨g,o,hao,hg1,hg2,htl,c0,c1⟩:=a3Z.keeps HL.out hKi j (k,t) hpj;have hEi:Env (wr.iterAt w.heap.size S (j+1)):=Env.keeps HE.out hKi hP;have HIT:Hid ((wr.iterAt w.heap.size S (j+1)).heap[w.heap.size]?=some (.stringIter S (j+1))):=Lib.iterAt_heap wr _ S j (j+1) hit;have HIT0:=a0a hit;have HKi:=a0a hKi;have HCi:=a0a hCi;subst hao;simp only at htl c0 c1;(have htb:(ByteArray.mk t.toArray).size<=2000:=by simpa[ByteArray.size] using htl);clear hit hC' hK hKi hCi;generalize wr.iterAt w.heap.size S (j+1)=W at *;go_wp2_with fail;refine (b2j _ hrl P i' tg' k ⟨t.toArray⟩ W htb hEi HCi.out).mono ?_;rintro e w3 ⟨rfl,hK3,hS3⟩;have HK3:=a0a hK3;(have hdt:(ByteArray.mk t.toArray).data.toList=t:=by simp);rw[hdt]at hS3 ⊢;have HS3:=a0a hS3;(have hit3:w3.heap[w.heap.size]?=some (.stringIter S (j+1)):=(hK3.block _ (Array.getElem?_eq_some_iff.1 HIT.out).1 (by omega) (by simp)).trans HIT.out);have HIT3:=a0a hit3;have HKK:=a0a (HKi.out.trans hK3);clear hK3 hS3 c0 c1 hnx hEi hit3
    cases hps:a1i (S[j]'hlt) k t i' tg' with
    | none=>
     have HN:Hid (a0i S.data.toList l i tg=none):=by
      show _=_;rw[HM.out,HDS.out,HDL.out];simp only[a0i];rw[hps];rfl
     simp only[Option.isSome];go_wp2_with fail;go_ret;exact ⟨by rw[HN.out];rfl,HKK.out,fun s h=>by rw[HN.out]at h;cases h⟩
    | some s=>
     have HS4:=a0a (HS3.out s hps);have HPS:=a0a hps;clear HS3 hps;simp only[Option.isSome];go_wp2_with fail;go_roundw
     case rel=>
      (refine ⟨j+1,s.1,s.2,by omega,HIT3.out,HS4.out,HKK.out,?_⟩);show _=_;rw[HM.out,HDS.out,HDL.out];simp only[a0i];rw[HPS.out];rfl
     case measure=>
      simp[World.iterPos,HIT3.out,HIT0.out];omega
   ·have hje:j=S.size:=by omega
    have hnx:∀ty,(Instr.next (.pointer (some ⟨w.heap.size,0,none⟩)) true ty).run prog wr=.ok (.tuple #[.bool false]) wr:=fun ty=>
     Lib.run_next_end_at wr w.heap.size S j ty hit hlt
    have HN:Hid (a0i S.data.toList l i tg=some (i',tg')):=by
     show _=_;(rw[HM.out,List.drop_eq_nil_of_le (by simp;omega),List.drop_eq_nil_of_le (by omega)]);rfl
    have HK:=a0a hK;have HC2:=a0a hC';clear hC' hK hit;go_wp2_with fail;go_ret;exact ⟨by rw[HN.out];rfl,HK.out,fun s h=>by rw[HN.out]at h;cases h;exact HC2.out⟩
theorem b4a (nm:ByteArray) (k:Nat) (w:World) (hk:k<64) (hf:(List.range 64).find? (a1v nm)=some k):
    Calls prog 189 #[.string nm] w fun e w'=>e=.returned (.tuple #[(Pn.Ins.mk (k+1) 0 0 0 0).val,.string ⟨(Pn.shp (Pn.row k).kind).toArray⟩,.bool true])/\Below w.heap.size w w':=by
 have HF:=a0a hf;go_enter func189,ntmps189;go_wp2_with fail;refine (b0X nm _).mono ?_;rintro e w1 ⟨rfl,hB1⟩;rw[HF.out];have HZ:=a0a (CellsAt.alloc ((CellsAt.new w zI 26).next hB1) (.cells (a3a k).toArray 100));have hz1:w.heap.size<w1.heap.size:=((CellsAt.new w zI 26).next hB1).1;have HB1:=a0a (((Below.refl w.heap.size w).alloc (Nat.le_refl _) _).trans (hB1.mono (by simp)))
 have HR:=a0a (CellsAt.new w1 (a3a k) 100);have HBW:=a0a (HB1.out.alloc HB1.out.size (.cells (a3a k).toArray 100));clear hB1;unfold a1e a3y;unfold a3a at HZ HR HBW ⊢;go_wp2_with fail;have s0:=HR.out.2.2 0 _ rfl;have s2:=HR.out.2.2 2 _ rfl;obtain ⟨hz,yf,yc⟩:=HZ.out;have y0:=yc 0 _ rfl;have y1:=yc 1 _ rfl;have y2:=yc 2 _ rfl;have y3:=yc 3 _ rfl;have y4:=yc 4 _ rfl;have hne:w.heap.size≠w1.heap.size:=by omega
 clear yc HZ HR;generalize w1.alloc _=W at *
 go_region_held3 (fun w'=>w'.cell? ⟨w1.heap.size,0,none⟩=some (.int .i64 (k+1))/\w'.cell? ⟨w1.heap.size,2,none⟩=some (.int .i64 (Pn.kdI (Pn.row k).kind))) (go_keep)
  (first|(go_at_call 62;refine (a9C _ (a02 k hk) _).mono ?_;rintro e w' ⟨rfl,rfl⟩))
 all_goals
  go_wp2_with fail;refine bodyPost_ret (v:=.tuple #[(Pn.Ins.mk (k+1) 0 0 0 0).val,.string ⟨(Pn.shp (Pn.row k).kind).toArray⟩,.bool true]) (by simp[results,results189,go_sem,y0,y1,y2,y3,y4,Pn.Ins.val]) rfl ⟨rfl,?_⟩
  exact a0I HBW.out.drew _ _ _ _ _
theorem a3Z.move {ao:Option Addr} {l:List Pn.Pc} {w w':World} (h:a3Z ao l w.heap.size w) (hB:Below w.heap.size w w') (P:Nat) (hP:w.heap.size<=P):a3Z ao l P w':=fun i p hi=>by
 obtain ⟨g,o,h1,h2,h3,h4,h5,h6⟩:=h i p hi;exact ⟨g,o,h1,Nat.lt_of_lt_of_le h2 hB.size,by omega,h4,(hB.cell (p:=⟨g,_,none⟩) h2).trans h5,(hB.cell (p:=⟨g,_,none⟩) h2).trans h6⟩
def b1N:List Value:=[.string ⟨#[]⟩,.int .i64 0,.int .i64 0,.int .i64 0,.int .i64 0,.int .i64 0,.string ⟨#[]⟩]
theorem a4o {w w3:World} (h:Below w.heap.size w w3) (a b c d e f g:Value):
    Below w.heap.size w (((((((w3.setCell ⟨w.heap.size,0,none⟩ a).setCell ⟨w.heap.size,1,none⟩ b).setCell ⟨w.heap.size,2,none⟩ c).setCell ⟨w.heap.size,3,none⟩ d).setCell ⟨w.heap.size,4,none⟩ e).setCell ⟨w.heap.size,5,none⟩ f).setCell ⟨w.heap.size,6,none⟩ g):=
 ((((((h.setCell (Nat.le_refl _) _).setCell (Nat.le_refl _) _).setCell (Nat.le_refl _) _).setCell (Nat.le_refl _) _).setCell (Nat.le_refl _) _).setCell (Nat.le_refl _) _).setCell (Nat.le_refl _) _
theorem a6i (nm:ByteArray) (k:Nat) (l:List Pn.Pc) (ao:Option Addr) (cp:Nat) (w:World) (hk:k<64) (hf:(List.range 64).find? (a1v nm)=some k) (hE:Env w) (hl:a3Z ao l w.heap.size w):
    Calls prog 136 #[.string nm,.slice ao l.length cp] w fun e w'=>e=.returned (.tuple #[.agg (Pn.rin k l).1.toArray,.int .i64 (Pn.rin k l).2])/\Below w.heap.size w w':=by
 have HL:=a0a hl;have HE:=a0a hE;have HKO:=a0a (a02 k hk);have hng:=hE.1;clear hl;go_enter func136,ntmps136;go_wp2_with fail;refine (b4a nm k _ hk hf).mono ?_;rintro e w1 ⟨rfl,hB1⟩;have HZ1:=a0a ((CellsAt.new w b1N 193).next hB1);have HB1:=a0a (((Below.refl w.heap.size w).alloc (Nat.le_refl _) _).trans (hB1.mono (by simp)))
 have hz1:w.heap.size<w1.heap.size:=HZ1.out.1;clear hB1;unfold Pn.Ins.val;simp only;go_wp2_with fail
 have hBW:Below w1.heap.size w1 ((w1.alloc (.cells #[.int .i64 (k+1),.int .i64 0,.int .i64 0,.int .i64 0,.int .i64 0] 26)).alloc (.cells #[.string ⟨#[]⟩,.int .i64 (k+1),.int .i64 0,.int .i64 0,.int .i64 0,.int .i64 0,.string ⟨#[]⟩] 193)):=
  ((Below.refl _ _).alloc (Nat.le_refl _) _).alloc (by simp) _
 have hC2:CellsAt (w1.heap.size+1) (a0f ⟨k+1,0,0,0,0⟩ []) ((w1.alloc (.cells #[.int .i64 (k+1),.int .i64 0,.int .i64 0,.int .i64 0,.int .i64 0] 26)).alloc (.cells #[.string ⟨#[]⟩,.int .i64 (k+1),.int .i64 0,.int .i64 0,.int .i64 0,.int .i64 0,.string ⟨#[]⟩] 193)):=by
  have:=CellsAt.new (w1.alloc (.cells #[.int .i64 (k+1),.int .i64 0,.int .i64 0,.int .i64 0,.int .i64 0] 26)) (a0f ⟨k+1,0,0,0,0⟩ []) 193;rw[World.size_alloc]at this;exact this
 have HZ2:=a0a (CellsAt.next HZ1.out hBW);have hB2:=HB1.out.trans (hBW.mono HB1.out.size);have hE2:=Env.below HE.out hB2 HE.out.1;have hP2:=a3Z.move HL.out hB2 (w1.heap.size+1) (by omega)
 have HB2:=a0a hB2;have HSD:Hid ((ByteArray.mk (Pn.shp (Pn.row k).kind).toArray).data.toList=Pn.shp (Pn.row k).kind):=by show _=_;simp
 clear hBW hB2 HB1 HZ1;generalize ((w1.alloc (.cells #[.int .i64 (k+1),.int .i64 0,.int .i64 0,.int .i64 0,.int .i64 0] 26)).alloc (.cells #[.string ⟨#[]⟩,.int .i64 (k+1),.int .i64 0,.int .i64 0,.int .i64 0,.int .i64 0,.string ⟨#[]⟩] 193))=W at *;refine (a3s _ (by rw[HSD.out];exact a49 HKO.out) (by simpa[ByteArray.size] using a90 (Pn.row k).kind) (w1.heap.size+1) ⟨k+1,0,0,0,0⟩ [] l ao cp W hE2 (by omega) hC2 hP2).mono ?_
 rintro e w3 ⟨rfl,hK3,hS3⟩;rw[HSD.out]at hS3 ⊢;have HZ3:=a0a (CellsAt.keeps HZ2.out hK3 (by omega) (by simp))
 have HB3:=a0a (hK3.below HB2.out (by omega) (fun _ h=>by cases h) (Nat.le_refl _))
 have HS3:=a0a hS3;obtain ⟨hzz,yf,yc⟩:=HZ3.out;have y0:=yc 0 _ rfl;have y1:=yc 1 _ rfl;have y2:=yc 2 _ rfl;have y3:=yc 3 _ rfl;have y4:=yc 4 _ rfl;have y5:=yc 5 _ rfl;have y6:=yc 6 _ rfl;clear hK3 hS3 hC2 hE2 hP2 yc
 cases hps:a0i (Pn.shp (Pn.row k).kind) l ⟨k+1,0,0,0,0⟩ [] with
 | none=>
  have HR:=a0a (b3S hps);simp only[Option.isSome];go_wp2_with fail;refine bodyPost_ret (v:=.tuple #[.agg b1N.toArray,.int .i64 4]) (by simp[results,results136,go_sem,y0,y1,y2,y3,y4,y5,y6,b1N]) rfl ⟨by rw[HR.out];rfl,a4o HB3.out _ _ _ _ _ _ _⟩
 | some s=>
  obtain ⟨⟨op,rd,rs1,rs2,imm⟩,tg⟩:=s;have HPS:=a0a hps;obtain ⟨hpp,_,pc⟩:=HS3.out _ hps;have p0:=pc 0 _ rfl;have p1:=pc 1 _ rfl;have p2:=pc 2 _ rfl;have p3:=pc 3 _ rfl;have p4:=pc 4 _ rfl;have p5:=pc 5 _ rfl;have p6:=pc 6 _ rfl;simp only at p1 p2 p3 p4 p5 p6;have HPC:=a0a pc;clear hps pc HS3;simp only[Option.isSome];go_wp2_with fail;refine (a15 ⟨op,rd,rs1,rs2,imm⟩ _).mono ?_;rintro e w4 ⟨rfl,hB4⟩;have HZ4:=a0a (CellsAt.next HZ3.out hB4);have HB4:=a0a (HB3.out.trans (hB4.mono HB3.out.size));have hp4:∀j v,(a0f ⟨op,rd,rs1,rs2,imm⟩ tg)[j]?=some v->w4.cell? ⟨w1.heap.size+1,j,none⟩=some v:=fun j v hj=>(hB4.cell (p:=⟨w1.heap.size+1,j,none⟩) hpp).trans (HPC.out j v hj)
  have P0:=hp4 0 _ rfl;have P1:=hp4 1 _ rfl;have P2:=hp4 2 _ rfl;have P3:=hp4 3 _ rfl;have P4:=hp4 4 _ rfl;have P5:=hp4 5 _ rfl;have P6:=hp4 6 _ rfl;simp only at P1 P2 P3 P4 P5 P6;have hpp4:w1.heap.size+1<w4.heap.size:=Nat.lt_of_lt_of_le hpp hB4.size;clear y0 y1 y2 y3 y4 y5 y6 yf hzz p0 p1 p2 p3 p4 p5 p6 hB4 hp4;obtain ⟨hzz,yf,yc⟩:=HZ4.out;have y0:=yc 0 _ rfl;have y1:=yc 1 _ rfl;have y2:=yc 2 _ rfl;have y3:=yc 3 _ rfl;have y4:=yc 4 _ rfl;have y5:=yc 5 _ rfl;have y6:=yc 6 _ rfl;clear yc;by_cases hr:Pn.right ⟨op,rd,rs1,rs2,imm⟩=true
  ·have hop:1<=op/\op<=64:=by
    apply Classical.byContradiction;intro hn;rw[a1C _ hn]at hr;cases hr
   (obtain ⟨kk,rfl⟩:∃kk:Nat,op=kk+1:=⟨(op-1).toNat,by omega⟩);have HR:=a0a (b61 HPS.out hr);rw[a3S hr];unfold a3y a3a;clear hr;go_wp2_with fail;(refine bodyPost_ret (v:=.tuple #[.agg (a0f ⟨kk+1,rd,rs1,rs2,imm⟩ tg).toArray,.int .i64 0]) (by simp[results,results136,go_sem,y0,y1,y2,y3,y4,y5,y6,hzz,a0f]) rfl ⟨by rw[HR.out],?_⟩);exact (a4o HB4.out _ _ _ _ _ _ _).alloc (by have:=HB4.out.size;simp[World.setCell];omega) _
  ·have hr':Pn.right ⟨op,rd,rs1,rs2,imm⟩=false:=by simpa using hr
   have HR:=a0a (c2V HPS.out hr');rw[a2C hr'];unfold a0U a1P;clear hr hr';go_wp2_with fail;(refine bodyPost_ret (v:=.tuple #[.agg b1N.toArray,.int .i64 5]) (by simp[results,results136,go_sem,y0,y1,y2,y3,y4,y5,y6,hzz,b1N]) rfl ⟨by rw[HR.out];rfl,?_⟩);exact (a4o HB4.out _ _ _ _ _ _ _).alloc (by have:=HB4.out.size;simp[World.setCell];omega) _
theorem b7z {p:Nat->Bool} {k:Nat} (h:(List.range 64).find? p=some k):k<64:=by
 rw[List.find?_range_eq_some]at h;simpa using h.2.1
theorem a61 (nm:ByteArray) (l:List Pn.Pc) (ao:Option Addr) (cp:Nat) (w:World) (hE:Env w) (hl:a3Z ao l w.heap.size w):
    Calls prog 74 #[.string nm,.slice ao l.length cp] w fun e w'=>e=.returned (.tuple #[(a0W nm l).1.val,.int .i64 (a0W nm l).2])/\Below w.heap.size w w':=by
 have HL:=a0a hl;have HE:=a0a hE;clear hl;go_enter func74,ntmps74;go_wp2_with fail;refine (b0X nm _).mono ?_;rintro e w1 ⟨rfl,hB1⟩;have HZ1:=a0a ((CellsAt.new w zI 26).next hB1);have HB1:=a0a (((Below.refl w.heap.size w).alloc (Nat.le_refl _) _).trans (hB1.mono (by simp)))
 have hz1:w.heap.size<w1.heap.size:=HZ1.out.1;clear hB1
 cases hf:(List.range 64).find? (a1v nm) with
 | none=>
  have HP:Hid (a0W nm l=(⟨0,0,0,0,0⟩,4)):=by show _=_;simp only[a0W,hf]
  obtain ⟨_,yf,yc⟩:=HZ1.out;have y0:=yc 0 _ rfl;have y1:=yc 1 _ rfl;have y2:=yc 2 _ rfl;have y3:=yc 3 _ rfl;have y4:=yc 4 _ rfl;clear yc;unfold a1e a0U a1P;go_wp2_with fail;refine bodyPost_ret (v:=.tuple #[(Pn.Ins.mk 0 0 0 0 0).val,.int .i64 4]) (by simp[results,results74,go_sem,y0,y1,y2,y3,y4,hz1,Pn.Ins.val]) rfl ⟨by rw[HP.out],?_⟩
  exact (a0I HB1.out _ _ _ _ _).alloc (by have:=HB1.out.size;simp[World.setCell];omega) _
 | some k=>
  have hk:=b7z hf;have HF:=a0a hf;have hB2:Below w.heap.size w (w1.alloc (.cells (a3a k).toArray 100)):=HB1.out.alloc HB1.out.size _;have hE2:=Env.below HE.out hB2 HE.out.1;have hP2:a3Z ao l (w1.alloc (.cells (a3a k).toArray 100)).heap.size (w1.alloc (.cells (a3a k).toArray 100)):=a3Z.move HL.out hB2 _ (by simp;omega)
  have HZ2:=a0a (CellsAt.alloc HZ1.out (.cells (a3a k).toArray 100));have HB2:=a0a hB2;clear hf hB2;unfold a1e a3y;unfold a3a at hE2 hP2 HZ2 HB2 ⊢;go_wp2_with fail;refine (a6i nm k l ao cp _ hk HF.out hE2 hP2).mono ?_;rintro e w3 ⟨rfl,hB3⟩;have HZ3:=a0a (CellsAt.next HZ2.out hB3);have HB3:=a0a (HB2.out.trans (hB3.mono HB2.out.size));obtain ⟨hzz,yf,yc⟩:=HZ3.out;have y0:=yc 0 _ rfl;have y1:=yc 1 _ rfl;have y2:=yc 2 _ rfl;have y3:=yc 3 _ rfl;have y4:=yc 4 _ rfl;clear hB3 hE2 hP2 yc
  cases hps:a0i (Pn.shp (Pn.row k).kind) l ⟨k+1,0,0,0,0⟩ [] with
  | none=>
   (have HP:Hid (a0W nm l=(⟨0,0,0,0,0⟩,4)):=by show _=_;simp only[a0W,HF.out,hps]);rw[b3S hps];unfold a0f;simp only;go_wp2_with fail;(refine bodyPost_ret (v:=.tuple #[(Pn.Ins.mk 0 0 0 0 0).val,.int .i64 4]) (by simp[results,results74,go_sem,y0,y1,y2,y3,y4,hzz,Pn.Ins.val]) rfl ⟨by rw[HP.out],?_⟩);exact (a0I HB3.out _ _ _ _ _).alloc (by have:=HB3.out.size;simp[World.setCell];omega) _
  | some s=>
   obtain ⟨⟨op,rd,rs1,rs2,imm⟩,tg⟩:=s;by_cases hr:Pn.right ⟨op,rd,rs1,rs2,imm⟩=true
   ·rw[b61 hps hr]
    unfold a0f;simp only;by_cases htg:tg=[]
    ·have HP:Hid (a0W nm l=(⟨op,rd,rs1,rs2,imm⟩,0)):=by show _=_;simp only[a0W,HF.out,hps,hr,htg,if_true]
     subst htg;clear hps hr;go_wp2_with fail;(refine bodyPost_ret (v:=.tuple #[(Pn.Ins.mk op rd rs1 rs2 imm).val,.int .i64 0]) (by simp[results,results74,go_sem,y0,y1,y2,y3,y4,hzz,Pn.Ins.val]) rfl ⟨by rw[HP.out],?_⟩);exact (a0I HB3.out _ _ _ _ _).alloc (by have:=HB3.out.size;simp[World.setCell];omega) _
    ·have HP:Hid (a0W nm l=(⟨0,0,0,0,0⟩,4)):=by show _=_;simp only[a0W,HF.out,hps,hr,htg,if_true,if_false]
     (have hte:tg.isEmpty=false:=by cases tg with|nil=>exact absurd rfl htg|cons a b=>rfl);clear hps hr;go_wp2_with fail;(refine bodyPost_ret (v:=.tuple #[(Pn.Ins.mk 0 0 0 0 0).val,.int .i64 4]) (by simp[results,results74,go_sem,y0,y1,y2,y3,y4,hzz,Pn.Ins.val]) rfl ⟨by rw[HP.out],?_⟩);exact (a0I HB3.out _ _ _ _ _).alloc (by have:=HB3.out.size;simp[World.setCell];omega) _
   ·have hr':Pn.right ⟨op,rd,rs1,rs2,imm⟩=false:=by simpa using hr
    (have HP:Hid (a0W nm l=(⟨0,0,0,0,0⟩,5)):=by show _=_;simp only[a0W,HF.out,hps,hr',if_false,Bool.false_eq_true]);rw[c2V hps hr'];unfold a0f;simp only;clear hps hr hr';go_wp2_with fail;(refine bodyPost_ret (v:=.tuple #[(Pn.Ins.mk 0 0 0 0 0).val,.int .i64 5]) (by simp[results,results74,go_sem,y0,y1,y2,y3,y4,hzz,Pn.Ins.val]) rfl ⟨by rw[HP.out],?_⟩);exact (a0I HB3.out _ _ _ _ _).alloc (by have:=HB3.out.size;simp[World.setCell];omega) _
theorem b5s (s:ByteArray) (w:World) (h:2000<s.size):
    Calls prog 39 #[.string s] w fun e w'=>e=.returned (.tuple #[(Pn.Ins.mk 0 0 0 0 0).val,.int .i64 4])/\Below w.heap.size w w':=by
 have h':(2000:Int)<s.size:=by omega
 go_enter func39,ntmps39;go_wp2_with fail;exact bodyPost_ret (v:=.tuple #[(Pn.Ins.mk 0 0 0 0 0).val,.int .i64 4]) (by simp[results,results39,go_sem,Pn.Ins.val]) rfl ⟨rfl,(Below.refl _ _).alloc (Nat.le_refl _) _⟩
theorem c2b (s:ByteArray) (w:World) (h:¬2000<s.size) (hl:0<=Lib.indexByte s.data.toList 10):
    Calls prog 39 #[.string s] w fun e w'=>e=.returned (.tuple #[(Pn.Ins.mk 0 0 0 0 0).val,.int .i64 4])/\Below w.heap.size w w':=by
 have h':¬(2000:Int)<s.size:=by omega
 have hd:decide (0<=Lib.indexByte s.data.toList 10)=true:=decide_eq_true hl;clear hl;go_enter func39,ntmps39;go_wp2_with fail;refine (Tryz.strings_Contains_one s 10 _).mono ?_;rintro e w1 ⟨rfl,rfl⟩;rw[hd];go_wp2_with fail;exact bodyPost_ret (v:=.tuple #[(Pn.Ins.mk 0 0 0 0 0).val,.int .i64 4]) (by simp[results,results39,go_sem,Pn.Ins.val]) rfl ⟨rfl,(Below.refl _ _).alloc (Nat.le_refl _) _⟩
structure RA (w0:World) (ao:Option Addr) (g:Nat) (t:List UInt8) (l:List Pn.Pc) (W:World):Prop where
 env:Env W
 pcs:a3Z ao l W.heap.size W
 res:CellsAt w0.heap.size zI W
 below:Below w0.heap.size w0 W
 lt:g<W.heap.size
 far:g≠w0.heap.size
 text:W.cell? ⟨g,1,none⟩=some (.string ⟨t.toArray⟩)
theorem RA.next {w0:World} {ao:Option Addr} {g:Nat} {t:List UInt8} {l:List Pn.Pc} {W W':World} (h:RA w0 ao g t l W) (hB:Below W.heap.size W W'):RA w0 ao g t l W':=
 ⟨h.env.below hB h.env.1,h.pcs.move hB _ hB.size,h.res.next hB,h.below.trans (hB.mono h.below.size),Nat.lt_of_lt_of_le h.lt hB.size,h.far,(hB.cell (p:=⟨g,1,none⟩) h.lt).trans h.text⟩
theorem a6Q (nm:ByteArray) (cp:Nat) {w0:World} {ao:Option Addr} {g n:Nat} {t:List UInt8} {l:List Pn.Pc} {W:World} (h:RA w0 ao g t l W) (hn:l.length=n):
    Calls prog 74 #[.string nm,.slice ao n cp] W fun e w'=>∃op rd rs1 rs2 imm er,Hid (a0W nm l=(⟨op,rd,rs1,rs2,imm⟩,er))/\e=.returned (.tuple #[.agg #[.int .i64 op,.int .i64 rd,.int .i64 rs1,.int .i64 rs2,.int .i64 imm],.int .i64 er])/\RA w0 ao g t l w':=by
 subst hn;exact (a61 nm l _ cp W h.env h.pcs).mono fun _ _ ⟨he,hB⟩=>⟨_,_,_,_,_,_,rfl,he,h.next hB⟩
theorem c9b {w w2:World} {v:Value} {p:Pn.Pc} {l:List Pn.Pc} {base:Nat} (hown:w2.ownsRow base 131 2 v (p::l).length ((p::l).flatMap a1D)) (hb:w.heap.size<base) (hE:Env w2) (hZ:CellsAt w.heap.size zI w2) (hB:Below w.heap.size w w2)
    (hlen:∀q∈p::l,q.2.length<=2000):∃g cap,v=.slice (some ⟨g,0,none⟩) (l.length+1) cap/\l.length+1<=cap/\RA w (some ⟨g,2,none⟩) g p.2 l w2:=by
 have hh:=hown;obtain ⟨_,h1|⟨g,cap,cur,hv,hg,hc,hle,_⟩⟩:=hown
 ·have:=h1.2;simp at this
 ·have hlt:g<w2.heap.size:=(hh.lt g (by rw[hv];rfl)).2
  have key:∀k j q,j<2->(p::l)[k]?=some q->w2.cell? ⟨g,k*2+j,none⟩=(a1D q)[j]?:=fun k j q hj hq=>by
   have hk:k<(p::l).length:=by
    rcases Nat.lt_or_ge k (p::l).length with h|h
    ·exact h
    ·rw[List.getElem?_eq_none h]at hq;cases hq
   (have hf:=a1j a1D 2 (fun _=>rfl) (p::l) k j hj hk);rw[hq]at hf;(have hx:(a1D q)[j]?=some ((a1D q)[j]'(by simp[a1D];omega)):=List.getElem?_eq_getElem _);simp only[Option.bind_some]at hf;(have:=hh.cells (g:=g) (by rw[hv];rfl) (2*k+j) _ (hf.trans hx));rw[hx,<-this]
   have e:(⟨g,0,none⟩:Addr).add (2*k+j)=⟨g,k*2+j,none⟩:=by
    simp only[Addr.add];rw[Nat.mul_comm 2 k];simp;omega
   rw[e]
  refine ⟨g,cap,by rw[hv];rfl,by simpa using hle,hE,fun i q hi=>?_,hZ,hB,hlt,by omega,?_⟩
  ·have hi':(p::l)[i+1]?=some q:=by simpa using hi
   (have e0:=key (i+1) 0 q (by omega) hi');(have e1:=key (i+1) 1 q (by omega) hi');refine ⟨g,2,rfl,hlt,by omega,hlen q (List.mem_of_getElem? hi'),?_,?_⟩
   ·have:2+i*2=(i+1)*2+0:=by omega
    rw[this];exact e0
   ·have:2+i*2+1=(i+1)*2+1:=by omega
    rw[this];exact e1
  ·exact key 0 1 p (by omega) rfl
theorem b91 (s:ByteArray) (w:World) (h:¬2000<s.size) (hl:¬0<=Lib.indexByte s.data.toList 10) (hE:Env w):
    Calls prog 39 #[.string s] w fun e w'=>e=.returned (.tuple #[(Pn.prd s).1.val,.int .i64 (Pn.prd s).2])/\Below w.heap.size w w':=by
 have h':¬(2000:Int)<s.size:=by omega
 have hs:s.size<=2000:=by omega
 have hd:decide (0<=Lib.indexByte s.data.toList 10)=false:=decide_eq_false hl
 have HPR:Hid (Pn.prd s=match a1d (Lib.cut s.data.toList [35]).1 0 [] with
  | none=>(⟨0,0,0,0,0⟩,4)
  | some []=>(⟨0,0,0,0,0⟩,4)
  | some (p::l)=>a0W ⟨p.2.toArray⟩ l):=by
  show _=_;unfold Pn.prd;rw[if_neg (by rintro (a|a);exact h a;exact hl a)]
  rfl
 have HE:=a0a (fun o=>hE.alloc o)
 clear hl h;go_enter func39,ntmps39;go_wp2_with fail;refine (Tryz.strings_Contains_one s 10 _).mono ?_;rintro e w1 ⟨rfl,rfl⟩;rw[hd];go_wp2_with fail;refine (a50 s _ hs (HE.out _)).mono ?_;rintro e w2 ⟨ho,hB2⟩;have HZ2:=a0a ((CellsAt.new w zI 26).next hB2);have HB2:=a0a (((Below.refl w.heap.size w).alloc (Nat.le_refl _) _).trans (hB2.mono (by simp)))
 have HE2:Hid (Env w2):=Env.below (HE.out _) hB2 (HE.out _).1;obtain ⟨hzz,yf,yc⟩:=HZ2.out;have y0:=yc 0 _ rfl;have y1:=yc 1 _ rfl;have y2:=yc 2 _ rfl;have y3:=yc 3 _ rfl;have y4:=yc 4 _ rfl;clear yc hB2
 cases hc:a1d (Lib.cut s.data.toList [35]).1 0 [] with
 | none=>
  rw[hc]at HPR ho;simp only[b4p]at ho;subst ho;go_wp2_with fail;refine bodyPost_ret (v:=.tuple #[(Pn.Ins.mk 0 0 0 0 0).val,.int .i64 4]) (by simp[results,results39,go_sem,y0,y1,y2,y3,y4,Pn.Ins.val]) rfl ⟨by rw[HPR.out],a0I HB2.out _ _ _ _ _⟩
 | some A=>
  rw[hc]at HPR ho;simp only[b4p]at ho;obtain ⟨v,he,hown⟩:=ho;subst he
  cases A with
  | nil=>
   have hv:∃ao cap,v=.slice ao 0 cap:=by
    obtain ⟨_,h1|⟨g,cap,cur,hv,_⟩⟩:=hown
    ·exact ⟨none,0,h1.1⟩
    ·exact ⟨_,_,hv⟩
   clear hown;obtain ⟨ao,cap,hv⟩:=hv;subst hv;go_wp2_with fail;refine bodyPost_ret (v:=.tuple #[(Pn.Ins.mk 0 0 0 0 0).val,.int .i64 4]) (by simp[results,results39,go_sem,y0,y1,y2,y3,y4,Pn.Ins.val]) rfl ⟨by rw[HPR.out],a0I HB2.out _ _ _ _ _⟩
  | cons p l=>
   have hRA:∃g cap,v=.slice (some ⟨g,0,none⟩) (l.length+1) cap/\l.length+1<=cap/\RA w (some ⟨g,2,none⟩) g p.2 l w2:=
    c9b hown (by simp) HE2.out HZ2.out HB2.out (fun q hq=>by
     have h1:=a7G _ _ _ _ hc q hq
     have h2:(Lib.cut s.data.toList [35]).1.length<=s.data.toList.length:=by
      unfold Lib.cut;split
      ·simp;omega
      ·simp
     (have e:s.data.toList.length=s.size:=by simp);simp at h1 h2;omega)
   obtain ⟨g,cap,hv,hcap,hra⟩:=hRA;clear hown;subst hv;(have hnz:(((l.length+1:Nat):Int)==0)=false:=by simp;omega);(have hnz2:(((l.length:Int)+1)==0)=false:=by simp;omega);have tx:=hra.text;(have hfar:w.heap.size≠g:=fun e=>hra.far e.symm);(have hcap2:(l.length:Int)+1<=cap:=by omega);clear y0 y1 y2 y3 y4 yf hzz;by_cases hc1:cap=1
   ·have hl0:l=[]:=by cases l with|nil=>rfl|cons a b=>simp at hcap;omega
    subst hl0;subst hc1;(have hra0:∀ao,RA w ao g p.2 [] w2:=fun ao=>⟨hra.env,fun i q hi=>by simp at hi,hra.res,hra.below,hra.lt,hra.far,hra.text⟩);go_wp2_with fail
    go_region_held3 (fun w'=>w'.cell? ⟨g,1,none⟩=some (.string ⟨p.2.toArray⟩)) (first|(exact RA.text (by assumption))|go_keep)
     (first|(go_at_call 74;refine (a6Q (w0:=w) (g:=g) (t:=p.2) (l:=[]) _ _ (by first|assumption|exact RA.next (hra0 _) (a3b _ _)) rfl).mono ?_;rintro e w' ⟨op,rd,rs1,rs2,imm,er,HPP,rfl,hra'⟩;obtain ⟨zz,xf,xc⟩:=hra'.res;have x0:=xc 0 _ rfl;have x1:=xc 1 _ rfl;have x2:=xc 2 _ rfl;have x3:=xc 3 _ rfl;have x4:=xc 4 _ rfl;clear xc))
    have HB9:=a0a hra'.below;clear hra';go_wp2_with fail;refine bodyPost_ret (v:=.tuple #[(Pn.Ins.mk op rd rs1 rs2 imm).val,.int .i64 er]) (by simp[results,results39,go_sem,x0,x1,x2,x3,x4,Pn.Ins.val]) rfl ⟨by first|rw[HPR.out,HPP.out]|(rw[HPR.out];simp only;rw[HPP.out]),a0I HB9.out _ _ _ _ _⟩
   ·have h01:(1:Int)<=(l.length:Int)+1:=by omega
    (have h02:((l.length+1:Nat):Int)<=cap:=by omega);go_wp2_with fail
    go_region_held3 (fun w'=>w'.cell? ⟨g,1,none⟩=some (.string ⟨p.2.toArray⟩)) (first|(exact RA.text (by assumption))|go_keep)
     (first|(go_at_call 74;refine (a6Q _ _ (by first|assumption|exact RA.next hra (a3b _ _)) rfl).mono ?_;rintro e w' ⟨op,rd,rs1,rs2,imm,er,HPP,rfl,hra'⟩;obtain ⟨zz,xf,xc⟩:=hra'.res;have x0:=xc 0 _ rfl;have x1:=xc 1 _ rfl;have x2:=xc 2 _ rfl;have x3:=xc 3 _ rfl;have x4:=xc 4 _ rfl;clear xc))
    have HB9:=a0a hra'.below;clear hra';go_wp2_with fail;refine bodyPost_ret (v:=.tuple #[(Pn.Ins.mk op rd rs1 rs2 imm).val,.int .i64 er]) (by simp[results,results39,go_sem,x0,x1,x2,x3,x4,Pn.Ins.val]) rfl ⟨by first|rw[HPR.out,HPP.out]|(rw[HPR.out];simp only;rw[HPP.out]),a0I HB9.out _ _ _ _ _⟩
theorem b9C (s:ByteArray) (w:World) (hE:Env w):
    Calls prog 39 #[.string s] w fun e w'=>e=.returned (.tuple #[(Pn.prd s).1.val,.int .i64 (Pn.prd s).2])/\Below w.heap.size w w':=by
 by_cases h:2000<s.size
 ·have e:Pn.prd s=(⟨0,0,0,0,0⟩,4):=by unfold Pn.prd;rw[if_pos (Or.inl h)]
  rw[e];exact b5s s w h
 ·by_cases hl:0<=Lib.indexByte s.data.toList 10
  ·have e:Pn.prd s=(⟨0,0,0,0,0⟩,4):=by unfold Pn.prd;rw[if_pos (Or.inr hl)]
   rw[e];exact c2b s w h hl
  ·exact b91 s w h hl hE
theorem b8U (s:ByteArray) (w:World) (hE:Env w):
    Calls prog 18 #[.string s] w fun e w'=>e=.returned (.tuple #[(Pn.prd s).1.val,.int .i64 (Pn.prd s).2])/\Below w.heap.size w w':=by
 have HE:=a0a (fun o=>hE.alloc o)
 go_enter func18,ntmps18;go_wp2_with fail;refine (b9C s _ (HE.out _)).mono ?_;rintro e w1 ⟨rfl,hB1⟩;obtain ⟨hz1,yf,yc⟩:=(CellsAt.new w zI 26).next hB1;have y0:=yc 0 _ rfl;have y1:=yc 1 _ rfl;have y2:=yc 2 _ rfl;have y3:=yc 3 _ rfl;have y4:=yc 4 _ rfl;have HB1:Hid (Below w.heap.size w w1):=((Below.refl _ _).alloc (Nat.le_refl _) _).trans (hB1.mono (by simp))
 clear hB1 yc;generalize hD:Pn.prd s=D;have HD:=(show Hid _ from hD)
 clear hD;obtain ⟨⟨op,rd,rs1,rs2,imm⟩,er⟩:=D;unfold Pn.Ins.val;simp only;go_wp2_with fail;refine bodyPost_ret (v:=.tuple #[(Pn.Ins.mk op rd rs1 rs2 imm).val,.int .i64 er]) (by simp[results,results18,go_sem,y0,y1,y2,y3,y4,Pn.Ins.val]) rfl ⟨by rw[HD.out],a0I HB1.out _ _ _ _ _⟩
