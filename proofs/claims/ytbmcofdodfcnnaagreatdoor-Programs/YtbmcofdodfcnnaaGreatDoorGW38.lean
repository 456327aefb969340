import Derived.Test.YtbmcofdodfcnnaaGreatDoorW36a
import Derived.Test.YtbmcofdodfcnnaaGreatDoorW36b
import Derived.Test.YtbmcofdodfcnnaaGreatDoorW37
import Derived.Test.YtbmcofdodfcnnaaGreatDoorW12
set_option linter.all false
set_option maxHeartbeats 400000000
set_option maxRecDepth 100000
namespace Go.Proofs.YtbmcofdodfcnnaaGreatDoor
open Pn
open Go.Proofs.Tryz
open Go.RowKit
theorem c0D (t:Pn.Tok) (l:List Pn.Tok) (g o cap:Nat) (w:World) (hl:l.length<=1999) (hg:g<w.heap.size) (hcap:l.length+1<=cap) (hc:a0A t l g o w)
    (hk:(t.kind==46)=false) (hs:t.text≠[109,118]/\t.text≠[110,111,116]/\t.text≠[110,101,103]/\t.text≠[115,101,113,122]/\t.text≠[115,110,101,122]/\t.text≠[98,101,113,122]/\t.text≠[98,110,101,122]/\t.text≠[106]/\t.text≠[108,105]/\t.text≠[110,111,112]/\t.text≠[114,101,116]):
    Calls prog 243 #[.slice (some ⟨g,o,none⟩) (l.length+1) cap] w fun e w'=>a2k [] 4 w e w':=by
 obtain ⟨t0,t1,_,_⟩:=hc 0 t rfl;simp only[Nat.zero_mul,Nat.add_zero]at t0 t1;have hS0:(t.S.toList==[109,118])=false:=by rw[a05];simpa using hs.1
 have hS1:(t.S.toList==[110,111,116])=false:=by rw[a05];simpa using hs.2.1
 have hS2:(t.S.toList==[110,101,103])=false:=by rw[a05];simpa using hs.2.2.1
 have hS3:(t.S.toList==[115,101,113,122])=false:=by rw[a05];simpa using hs.2.2.2.1
 have hS4:(t.S.toList==[115,110,101,122])=false:=by rw[a05];simpa using hs.2.2.2.2.1
 have hS5:(t.S.toList==[98,101,113,122])=false:=by rw[a05];simpa using hs.2.2.2.2.2.1
 have hS6:(t.S.toList==[98,110,101,122])=false:=by rw[a05];simpa using hs.2.2.2.2.2.2.1
 have hS7:(t.S.toList==[106])=false:=by rw[a05];simpa using hs.2.2.2.2.2.2.2.1
 have hS8:(t.S.toList==[108,105])=false:=by rw[a05];simpa using hs.2.2.2.2.2.2.2.2.1
 have hS9:(t.S.toList==[110,111,112])=false:=by rw[a05];simpa using hs.2.2.2.2.2.2.2.2.2.1
 have hS10:(t.S.toList==[114,101,116])=false:=by rw[a05];simpa using hs.2.2.2.2.2.2.2.2.2.2
 clear hs;generalize hn:l.length+1=n at *;have hp1:0<n:=by omega
 have hp2:(0:Int)<n:=by omega
 have hn2:n<=2000:=by omega
 clear hn hl hc;generalize t.S=s at *;go_enter func243,ntmps243;go_wp2_with fail;go_ret2;exact a0n (Below.refl _ _)
theorem c7d (t:Pn.Tok) (l:List Pn.Tok) (g o cap:Nat) (w:World) (hl:l.length<=1999) (hg:g<w.heap.size) (hcap:l.length+1<=cap) (hc:a0A t l g o w)
    (hnum:∀u∈l,-1099511627776<=u.num/\u.num<=1099511627776) (hk:(t.kind==46)=false):
    Calls prog 243 #[.slice (some ⟨g,o,none⟩) (l.length+1) cap] w fun e w'=>a2k (a3d t l).1 (a3d t l).2 w e w':=by
 by_cases h0:t.text=[109,118]
 ·exact b1Z t l g o cap w hl hg hcap hc hk (.inl h0)
 by_cases h1:t.text=[110,111,116]
 ·exact b1Z t l g o cap w hl hg hcap hc hk (.inr (.inl h1))
 by_cases h2:t.text=[110,101,103]
 ·exact b1Z t l g o cap w hl hg hcap hc hk (.inr (.inr (.inl h2)))
 by_cases h3:t.text=[115,101,113,122]
 ·exact b1Z t l g o cap w hl hg hcap hc hk (.inr (.inr (.inr (.inl h3))))
 by_cases h4:t.text=[115,110,101,122]
 ·exact b1Z t l g o cap w hl hg hcap hc hk (.inr (.inr (.inr (.inr h4))))
 by_cases h5:t.text=[98,101,113,122]
 ·exact c2s t l g o cap w hl hg hcap hc hk (.inl h5)
 by_cases h6:t.text=[98,110,101,122]
 ·exact c2s t l g o cap w hl hg hcap hc hk (.inr h6)
 by_cases h7:t.text=[106]
 ·exact c8W t l g o cap w hl hg hcap hc hk h7
 by_cases h8:t.text=[108,105]
 ·exact c6t t l g o cap w hl hg hcap hc hnum hk h8
 by_cases h9:t.text=[110,111,112]
 ·exact c3d t l g o cap w hl hg hcap hc hk (.inl h9)
 by_cases h10:t.text=[114,101,116]
 ·exact c3d t l g o cap w hl hg hcap hc hk (.inr h10)
 have e:a3d t l=([],4):=by
  unfold a3d b6y;rw[if_neg h0,if_neg h1,if_neg h2,if_neg h3,if_neg h4,if_neg h5,if_neg h6,if_neg h7,if_neg h8,if_neg h9,if_neg h10]
 rw[e];exact c0D t l g o cap w hl hg hcap hc hk ⟨h0,h1,h2,h3,h4,h5,h6,h7,h8,h9,h10⟩
end Go.Proofs.YtbmcofdodfcnnaaGreatDoor
namespace Pn
open Go
def a7j (t:Tok) (l:List Tok):List Rp×Int:=if t.kind=46 then b1L l else a3d t l
def cfm (t:Tok):List Tok->Bool
 | d::u::_=>decide (t.text=[99])&&decide (d.kind=46)&&!d.blank&&!u.blank
 | _=>false
def cR (p:Ins×ByteArray×Int):List Rp×Int:=if p.2.2=0 then (if (a0S p.1).2=0 then ([⟨p.1,p.2.1.data.toList,true,[]⟩],0) else ([],5)) else ([],p.2.2)
def stN (t:Tok) (l:List Tok) (p:Ins×ByteArray×Int):List Rp×Int:=
 if p.2.2=0 then ([⟨p.1,p.2.1.data.toList,false,[]⟩],0) else if p.2.2=5 then ([],5) else a7j t l
def stR (t:Tok) (l:List Tok):List Rp×Int:=
 if cfm t l=true then (match l with|_::u::r=>cR (plain u r false)|_=>([],4)) else stN t l (plain t l true)
theorem a5p {t:Tok} {l:List Tok} (h:cfm t l=false):stR t l=stN t l (plain t l true):=by
 unfold stR;rw[if_neg (by rw[h];decide)]
theorem a3H (t:Tok) (l:List Tok):(plain t l true).2.2=0\/(plain t l true).2.2=4\/(plain t l true).2.2=5:=by
 unfold plain
 split
 ·exact Or.inr (Or.inl rfl)
 ·split
  ·exact Or.inr (Or.inl rfl)
  ·split
   ·exact Or.inr (Or.inl rfl)
   ·split
    ·exact Or.inl rfl
    ·exact Or.inr (Or.inr rfl)
end Pn
namespace Go.Proofs.YtbmcofdodfcnnaaGreatDoor
open Pn
open Go.Proofs.Tryz
open Go.RowKit
theorem a6b (t:Pn.Tok) (l:List Pn.Tok) (g o cap:Nat) (w:World) (hl:l.length<=1999) (hg:g<w.heap.size) (hcap:l.length+1<=cap) (hc:a0A t l g o w)
    (hnum:∀u∈l,-1099511627776<=u.num/\u.num<=1099511627776):
    Calls prog 243 #[.slice (some ⟨g,o,none⟩) (l.length+1) cap] w fun e w'=>a2k (a7j t l).1 (a7j t l).2 w e w':=by
 unfold a7j;by_cases h:t.kind=46
 ·rw[if_pos h]
  exact c6E t l g o cap w hl hg hcap hc hnum h
 ·rw[if_neg h]
  exact c7d t l g o cap w hl hg hcap hc hnum (by simpa using h)
theorem a4A {t:Pn.Tok} {l:List Pn.Tok} {g o:Nat} {w w':World} (h:a0A t l g o w) (hg:g<w.heap.size) (hB:Below w.heap.size w w'):a0A t l g o w':=fun k u hu=>by
 obtain ⟨a,b,c,d⟩:=h k u hu;exact ⟨(hB.cell (p:=⟨g,_,none⟩) hg).trans a,(hB.cell (p:=⟨g,_,none⟩) hg).trans b,(hB.cell (p:=⟨g,_,none⟩) hg).trans c,(hB.cell (p:=⟨g,_,none⟩) hg).trans d⟩
theorem b1I {t d u:Pn.Tok} {l:List Pn.Tok} {g o:Nat} {w:World} (h:a0A t (d::u::l) g o w):a0A u l g (o+8) w:=fun k v hv=>by
 have:=h (k+2) v (by simpa using hv)
 have ek:o+(k+2)*4=o+8+k*4:=by omega
 rw[ek]at this;exact this
theorem a3N {p:Pn.Rp} {er:Int} {w W:World} {X:Obj} (hB:Below w.heap.size w W):a2k [p] er w (.returned (.tuple #[.slice (some ⟨W.heap.size+1,0,none⟩) 1 1,.int .i64 er])) ((W.alloc X).alloc (.cells (Pn.rpC p 0 0).toArray 224)):=by
 have:=a0O (p:=p) (er:=er) (hB.alloc hB.size X);rw[World.size_alloc]at this;exact this
theorem b6g {p:Pn.Rp} {er:Int} {w W:World} {q:Addr} {v:Value} (hB:Below w.heap.size w W) (hq:w.heap.size<=q.block):a2k [p] er w (.returned (.tuple #[.slice (some ⟨W.heap.size,0,none⟩) 1 1,.int .i64 er])) ((W.setCell q v).alloc (.cells (Pn.rpC p 0 0).toArray 224)):=by
 have:=a0O (p:=p) (er:=er) (hB.setCell hq v);rw[show (W.setCell q v).heap.size=W.heap.size by simp[World.setCell]]at this
 exact this
theorem b6a (w:World) (i:Pn.Ins) (nm:ByteArray):a0Y w.heap.size i nm (w.alloc (.cells #[.int .i64 i.op,.int .i64 i.rd,.int .i64 i.rs1,.int .i64 i.rs2,.int .i64 i.imm,.string nm,.bool false,.string ⟨#[]⟩,.int .i64 0,.int .i64 0] 224)):=
 ⟨⟨by go_simp,by go_simp,by go_simp,by go_simp,by go_simp⟩,⟨by go_simp,by go_simp,by go_simp,by go_simp,by go_simp⟩,fun q=>by go_simp⟩
theorem c97 (t d u:Pn.Tok) (l:List Pn.Tok) (g o cap:Nat) (w:World) (hl:l.length<=1997) (hg:g<w.heap.size) (hcap:l.length+3<=cap) (hc:a0A t (d::u::l) g o w)
    (h0:t.text=[99]) (h1:d.kind=46) (h2:d.blank=false) (h3:u.blank=false):
    Calls prog 214 #[.slice (some ⟨g,o,none⟩) (l.length+3) cap] w fun e w'=>a2k (Pn.cR (Pn.plain u l false)).1 (Pn.cR (Pn.plain u l false)).2 w e w':=by
 obtain ⟨_,t1,_,_⟩:=hc 0 t rfl;obtain ⟨d0,_,_,d3⟩:=hc 1 d rfl;obtain ⟨_,_,_,u3⟩:=hc 2 u rfl;simp only[Nat.zero_mul,Nat.add_zero,Nat.one_mul,Nat.add_assoc,Nat.reduceAdd,Nat.reduceMul]at t1 d0 d3 u3;rw[h1]at d0;rw[h2]at d3;rw[h3]at u3;have hS:t.S.toList=[99]:=(a05 t).trans h0;have HP:=a0a (b4S u l g (o+8) (cap-2) w (by omega) hg (by omega) (b1I hc))
 generalize hn:l.length+3=n at *;rw[show l.length+1=n-2 by omega]at HP
 have hp1:2<n:=by omega
 have hp2:(2:Int)<n:=by omega
 have hn2:n<=2000:=by omega
 clear hn hl hc h0 h1 h2 h3;generalize t.S=s at *;generalize Pn.plain u l false=PL at *;obtain ⟨I,nm,c⟩:=PL;generalize hR:Pn.cR (I,nm,c)=R;have HV:=a0a hR.symm;clear hR;go_enter func214,ntmps214;go_wp2_with fail;refine HP.out.mono ?_;rintro e w1 ⟨rfl,hB1⟩;have HB1:=a0a hB1;have hz1:w.heap.size<=w1.heap.size:=hB1.size;clear hB1 HP t1 d0 d3 u3;unfold a0L;by_cases hc0:c=0
 ·subst hc0
  generalize hsh:a0S I=SH at *;obtain ⟨sh,se⟩:=SH;have HSH:=a0a (fun W=>a2U I W)
  rw[hsh]at HSH;have HQ:R=if se=0 then ([⟨I,nm.data.toList,true,[]⟩],0) else ([],5):=HV.out.trans (by unfold Pn.cR;simp only[if_true];rw[hsh])
  have HR:=a0a HQ;clear HQ HV hsh;go_wp2_with fail;refine (HSH.out _).mono ?_;rintro e w2 ⟨rfl,hB2⟩;obtain ⟨⟨x0,x1,x2,x3,x4⟩,⟨x5,x6,x7,x8,x9⟩,xf⟩:=(b6a w1 I nm).below hB2 (by simp)
  have hz2:w1.heap.size<w2.heap.size:=by have:=hB2.size;simp at this;omega
  have HB2:Hid (Below w.heap.size w w2):=a0a ((HB1.out.alloc hz1 _).trans (hB2.mono (by simp;omega)))
  clear hB2;by_cases hs0:se=0
  ·have HQ:=HR.out
   rw[if_pos hs0]at HQ;subst HQ hs0;clear HR;go_wp2_with fail;go_ret2;exact b6g (p:=⟨I,nm.data.toList,true,[]⟩) (q:=⟨w1.heap.size,6,none⟩) HB2.out hz1
  ·have HQ:=HR.out
   rw[if_neg hs0]at HQ;subst HQ;(have hsb:(se != 0)=true:=by simpa using hs0);clear HR hs0;go_wp2_with fail;go_ret2;exact a0n HB2.out
 ·have HQ:R=([],c):=HV.out.trans (by unfold Pn.cR;rw[if_neg hc0])
  subst HQ;have hcb:(c != 0)=true:=by simpa using hc0
  clear HV hc0;go_wp2_with fail;go_ret2;exact a0n (HB1.out.alloc hz1 _)
theorem c6V (t:Pn.Tok) (l:List Pn.Tok) (g o cap:Nat) (w:World) (hl:l.length<=1999) (hg:g<w.heap.size) (hcap:l.length+1<=cap) (hc:a0A t l g o w)
    (hnum:∀u∈l,-1099511627776<=u.num/\u.num<=1099511627776) (hs:l.length+1<=2):
    Calls prog 214 #[.slice (some ⟨g,o,none⟩) (l.length+1) cap] w fun e w'=>a2k (Pn.stN t l (Pn.plain t l true)).1 (Pn.stN t l (Pn.plain t l true)).2 w e w':=by
 have HP:=a0a (a5L t l g o cap w hl hg hcap hc);have HO:=a0a (fun W (hB:Below w.heap.size w W)=>a6b t l g o cap W hl (by have:=hB.size;omega) hcap (a4A hc hg hB) hnum)
 generalize hn:l.length+1=n at *;have hq:¬((2:Int)<n):=by omega
 have hp1:0<n:=by omega
 have hp2:(0:Int)<n:=by omega
 have hn2:n<=2000:=by omega
 clear hn hl hc;clear hs;have hcd:=a3H t l;generalize Pn.plain t l true=PL at *;obtain ⟨I,nm,c⟩:=PL;generalize hR:Pn.stN t l (I,nm,c)=R;have HV:=a0a hR.symm;clear hR;go_enter func214,ntmps214;go_wp2_with fail;refine HP.out.mono ?_;rintro e w1 ⟨rfl,hB1⟩;have HB1:=a0a hB1;have hz1:w.heap.size<=w1.heap.size:=hB1.size;clear hB1 HP;unfold a0L;rcases hcd with rfl|rfl|rfl
 ·have HQ:R=([⟨I,nm.data.toList,false,[]⟩],0):=HV.out
  subst HQ;clear HV HO;go_wp2_with fail;go_ret2;exact a3N (p:=⟨I,nm.data.toList,false,[]⟩) HB1.out
 ·have HQ:R=a7j t l:=HV.out
  subst HQ;clear HV;go_wp2_with fail;refine (HO.out _ (HB1.out.alloc hz1 _)).mono ?_;intro e w5 ho;have HO5:=a0a ho;clear ho;obtain ⟨ao,m,cp,rfl,hown,hB⟩:=id HO5.out;clear hown hB;go_wp2_with fail;go_ret2;exact a2V (HB1.out.alloc hz1 _) HO5.out
 ·have HQ:R=([],5):=HV.out
  subst HQ;clear HV HO;go_wp2_with fail;go_ret2;exact a0n (HB1.out.alloc hz1 _)
theorem c9F (t:Pn.Tok) (l:List Pn.Tok) (g o cap:Nat) (w:World) (hlen:2<=l.length) (hl:l.length<=1999) (hg:g<w.heap.size) (hcap:l.length+1<=cap) (hc:a0A t l g o w)
    (hnum:∀u∈l,-1099511627776<=u.num/\u.num<=1099511627776) (hs:t.text≠[99]):
    Calls prog 214 #[.slice (some ⟨g,o,none⟩) (l.length+1) cap] w fun e w'=>a2k (Pn.stN t l (Pn.plain t l true)).1 (Pn.stN t l (Pn.plain t l true)).2 w e w':=by
 obtain ⟨_,t1,_,_⟩:=hc 0 t rfl;simp only[Nat.zero_mul,Nat.add_zero]at t1;have hS:(t.S.toList==[99])=false:=by rw[a05];simpa using hs
 have HP:=a0a (a5L t l g o cap w hl hg hcap hc);have HO:=a0a (fun W (hB:Below w.heap.size w W)=>a6b t l g o cap W hl (by have:=hB.size;omega) hcap (a4A hc hg hB) hnum)
 generalize hn:l.length+1=n at *;have hq:(2:Int)<n:=by omega
 have hq2:2<n:=by omega
 have hp1:0<n:=by omega
 have hp2:(0:Int)<n:=by omega
 have hn2:n<=2000:=by omega
 clear hn hl hc;clear hs hlen;generalize t.S=s at *;have hcd:=a3H t l;generalize Pn.plain t l true=PL at *;obtain ⟨I,nm,c⟩:=PL;generalize hR:Pn.stN t l (I,nm,c)=R;have HV:=a0a hR.symm;clear hR;go_enter func214,ntmps214;go_wp2_with fail;refine HP.out.mono ?_;rintro e w1 ⟨rfl,hB1⟩;have HB1:=a0a hB1;have hz1:w.heap.size<=w1.heap.size:=hB1.size;clear hB1 HP t1;unfold a0L;rcases hcd with rfl|rfl|rfl
 ·have HQ:R=([⟨I,nm.data.toList,false,[]⟩],0):=HV.out
  subst HQ;clear HV HO;go_wp2_with fail;go_ret2;exact a3N (p:=⟨I,nm.data.toList,false,[]⟩) HB1.out
 ·have HQ:R=a7j t l:=HV.out
  subst HQ;clear HV;go_wp2_with fail;refine (HO.out _ (HB1.out.alloc hz1 _)).mono ?_;intro e w5 ho;have HO5:=a0a ho;clear ho;obtain ⟨ao,m,cp,rfl,hown,hB⟩:=id HO5.out;clear hown hB;go_wp2_with fail;go_ret2;exact a2V (HB1.out.alloc hz1 _) HO5.out
 ·have HQ:R=([],5):=HV.out
  subst HQ;clear HV HO;go_wp2_with fail;go_ret2;exact a0n (HB1.out.alloc hz1 _)
theorem c8w (t:Pn.Tok) (d u:Pn.Tok) (r l:List Pn.Tok) (g o cap:Nat) (w:World) (hl:l.length<=1999) (hg:g<w.heap.size) (hcap:l.length+1<=cap) (hc:a0A t l g o w)
    (hnum:∀u∈l,-1099511627776<=u.num/\u.num<=1099511627776) (hl3:l=d::u::r) (hs:t.text=[99]) (hd:d.kind≠46):
    Calls prog 214 #[.slice (some ⟨g,o,none⟩) (l.length+1) cap] w fun e w'=>a2k (Pn.stN t l (Pn.plain t l true)).1 (Pn.stN t l (Pn.plain t l true)).2 w e w':=by
 obtain ⟨_,t1,_,_⟩:=hc 0 t rfl;obtain ⟨d0,_,_,d3⟩:=hc 1 d (by rw[hl3];rfl)
 obtain ⟨_,_,_,u3⟩:=hc 2 u (by rw[hl3];rfl)
 simp only[Nat.zero_mul,Nat.add_zero,Nat.one_mul,Nat.add_assoc,Nat.reduceAdd,Nat.reduceMul]at t1 d0 d3 u3;have hS:t.S.toList=[99]:=(a05 t).trans hs;have hlen:2<=l.length:=by rw[hl3];simp
 have hdb:(d.kind==46)=false:=by simpa using hd
 have HP:=a0a (a5L t l g o cap w hl hg hcap hc);have HO:=a0a (fun W (hB:Below w.heap.size w W)=>a6b t l g o cap W hl (by have:=hB.size;omega) hcap (a4A hc hg hB) hnum)
 generalize hn:l.length+1=n at *;have hq:(2:Int)<n:=by omega
 have hq2:2<n:=by omega
 have hp1:0<n:=by omega
 have hp2:(0:Int)<n:=by omega
 have hn2:n<=2000:=by omega
 clear hn hl hc;clear hs hl3 hlen;generalize t.S=s at *;clear hd;have hcd:=a3H t l;generalize Pn.plain t l true=PL at *;obtain ⟨I,nm,c⟩:=PL;generalize hR:Pn.stN t l (I,nm,c)=R;have HV:=a0a hR.symm;clear hR;go_enter func214,ntmps214;go_wp2_with fail;refine HP.out.mono ?_;rintro e w1 ⟨rfl,hB1⟩;have HB1:=a0a hB1;have hz1:w.heap.size<=w1.heap.size:=hB1.size;clear hB1 HP t1 d0 d3 u3;unfold a0L;rcases hcd with rfl|rfl|rfl
 ·have HQ:R=([⟨I,nm.data.toList,false,[]⟩],0):=HV.out
  subst HQ;clear HV HO;go_wp2_with fail;go_ret2;exact a3N (p:=⟨I,nm.data.toList,false,[]⟩) HB1.out
 ·have HQ:R=a7j t l:=HV.out
  subst HQ;clear HV;go_wp2_with fail;refine (HO.out _ (HB1.out.alloc hz1 _)).mono ?_;intro e w5 ho;have HO5:=a0a ho;clear ho;obtain ⟨ao,m,cp,rfl,hown,hB⟩:=id HO5.out;clear hown hB;go_wp2_with fail;go_ret2;exact a2V (HB1.out.alloc hz1 _) HO5.out
 ·have HQ:R=([],5):=HV.out
  subst HQ;clear HV HO;go_wp2_with fail;go_ret2;exact a0n (HB1.out.alloc hz1 _)
theorem c8J (t:Pn.Tok) (d u:Pn.Tok) (r l:List Pn.Tok) (g o cap:Nat) (w:World) (hl:l.length<=1999) (hg:g<w.heap.size) (hcap:l.length+1<=cap) (hc:a0A t l g o w)
    (hnum:∀u∈l,-1099511627776<=u.num/\u.num<=1099511627776) (hl3:l=d::u::r) (hs:t.text=[99]) (hd:d.kind=46) (hb:d.blank=true):
    Calls prog 214 #[.slice (some ⟨g,o,none⟩) (l.length+1) cap] w fun e w'=>a2k (Pn.stN t l (Pn.plain t l true)).1 (Pn.stN t l (Pn.plain t l true)).2 w e w':=by
 obtain ⟨_,t1,_,_⟩:=hc 0 t rfl;obtain ⟨d0,_,_,d3⟩:=hc 1 d (by rw[hl3];rfl)
 obtain ⟨_,_,_,u3⟩:=hc 2 u (by rw[hl3];rfl)
 simp only[Nat.zero_mul,Nat.add_zero,Nat.one_mul,Nat.add_assoc,Nat.reduceAdd,Nat.reduceMul]at t1 d0 d3 u3;have hS:t.S.toList=[99]:=(a05 t).trans hs;have hlen:2<=l.length:=by rw[hl3];simp
 rw[hd]at d0;rw[hb]at d3;have HP:=a0a (a5L t l g o cap w hl hg hcap hc);have HO:=a0a (fun W (hB:Below w.heap.size w W)=>a6b t l g o cap W hl (by have:=hB.size;omega) hcap (a4A hc hg hB) hnum)
 generalize hn:l.length+1=n at *;have hq:(2:Int)<n:=by omega
 have hq2:2<n:=by omega
 have hp1:0<n:=by omega
 have hp2:(0:Int)<n:=by omega
 have hn2:n<=2000:=by omega
 clear hn hl hc;clear hs hl3 hlen;generalize t.S=s at *;clear hd hb;have hcd:=a3H t l;generalize Pn.plain t l true=PL at *;obtain ⟨I,nm,c⟩:=PL;generalize hR:Pn.stN t l (I,nm,c)=R;have HV:=a0a hR.symm;clear hR;go_enter func214,ntmps214;go_wp2_with fail;refine HP.out.mono ?_;rintro e w1 ⟨rfl,hB1⟩;have HB1:=a0a hB1;have hz1:w.heap.size<=w1.heap.size:=hB1.size;clear hB1 HP t1 d0 d3 u3;unfold a0L;rcases hcd with rfl|rfl|rfl
 ·have HQ:R=([⟨I,nm.data.toList,false,[]⟩],0):=HV.out
  subst HQ;clear HV HO;go_wp2_with fail;go_ret2;exact a3N (p:=⟨I,nm.data.toList,false,[]⟩) HB1.out
 ·have HQ:R=a7j t l:=HV.out
  subst HQ;clear HV;go_wp2_with fail;refine (HO.out _ (HB1.out.alloc hz1 _)).mono ?_;intro e w5 ho;have HO5:=a0a ho;clear ho;obtain ⟨ao,m,cp,rfl,hown,hB⟩:=id HO5.out;clear hown hB;go_wp2_with fail;go_ret2;exact a2V (HB1.out.alloc hz1 _) HO5.out
 ·have HQ:R=([],5):=HV.out
  subst HQ;clear HV HO;go_wp2_with fail;go_ret2;exact a0n (HB1.out.alloc hz1 _)
theorem c8O (t:Pn.Tok) (d u:Pn.Tok) (r l:List Pn.Tok) (g o cap:Nat) (w:World) (hl:l.length<=1999) (hg:g<w.heap.size) (hcap:l.length+1<=cap) (hc:a0A t l g o w)
    (hnum:∀u∈l,-1099511627776<=u.num/\u.num<=1099511627776) (hl3:l=d::u::r) (hs:t.text=[99]) (hd:d.kind=46) (hb:d.blank=false) (hu:u.blank=true):
    Calls prog 214 #[.slice (some ⟨g,o,none⟩) (l.length+1) cap] w fun e w'=>a2k (Pn.stN t l (Pn.plain t l true)).1 (Pn.stN t l (Pn.plain t l true)).2 w e w':=by
 obtain ⟨_,t1,_,_⟩:=hc 0 t rfl;obtain ⟨d0,_,_,d3⟩:=hc 1 d (by rw[hl3];rfl)
 obtain ⟨_,_,_,u3⟩:=hc 2 u (by rw[hl3];rfl)
 simp only[Nat.zero_mul,Nat.add_zero,Nat.one_mul,Nat.add_assoc,Nat.reduceAdd,Nat.reduceMul]at t1 d0 d3 u3;have hS:t.S.toList=[99]:=(a05 t).trans hs;have hlen:2<=l.length:=by rw[hl3];simp
 rw[hd]at d0;rw[hb]at d3;rw[hu]at u3;have HP:=a0a (a5L t l g o cap w hl hg hcap hc);have HO:=a0a (fun W (hB:Below w.heap.size w W)=>a6b t l g o cap W hl (by have:=hB.size;omega) hcap (a4A hc hg hB) hnum)
 generalize hn:l.length+1=n at *;have hq:(2:Int)<n:=by omega
 have hq2:2<n:=by omega
 have hp1:0<n:=by omega
 have hp2:(0:Int)<n:=by omega
 have hn2:n<=2000:=by omega
 clear hn hl hc;clear hs hl3 hlen;generalize t.S=s at *;clear hd hb hu;have hcd:=a3H t l;generalize Pn.plain t l true=PL at *;obtain ⟨I,nm,c⟩:=PL;generalize hR:Pn.stN t l (I,nm,c)=R;have HV:=a0a hR.symm;clear hR;go_enter func214,ntmps214;go_wp2_with fail;refine HP.out.mono ?_;rintro e w1 ⟨rfl,hB1⟩;have HB1:=a0a hB1;have hz1:w.heap.size<=w1.heap.size:=hB1.size;clear hB1 HP t1 d0 d3 u3;unfold a0L;rcases hcd with rfl|rfl|rfl
 ·have HQ:R=([⟨I,nm.data.toList,false,[]⟩],0):=HV.out
  subst HQ;clear HV HO;go_wp2_with fail;go_ret2;exact a3N (p:=⟨I,nm.data.toList,false,[]⟩) HB1.out
 ·have HQ:R=a7j t l:=HV.out
  subst HQ;clear HV;go_wp2_with fail;refine (HO.out _ (HB1.out.alloc hz1 _)).mono ?_;intro e w5 ho;have HO5:=a0a ho;clear ho;obtain ⟨ao,m,cp,rfl,hown,hB⟩:=id HO5.out;clear hown hB;go_wp2_with fail;go_ret2;exact a2V (HB1.out.alloc hz1 _) HO5.out
 ·have HQ:R=([],5):=HV.out
  subst HQ;clear HV HO;go_wp2_with fail;go_ret2;exact a0n (HB1.out.alloc hz1 _)
theorem b2m (t:Pn.Tok) (l:List Pn.Tok) (g o cap:Nat) (w:World) (hl:l.length<=1999) (hg:g<w.heap.size) (hcap:l.length+1<=cap) (hc:a0A t l g o w)
    (hnum:∀u∈l,-1099511627776<=u.num/\u.num<=1099511627776):
    Calls prog 214 #[.slice (some ⟨g,o,none⟩) (l.length+1) cap] w fun e w'=>a2k (Pn.stR t l).1 (Pn.stR t l).2 w e w':=by
 match l,hl,hcap,hc,hnum with
 | [],hl,hcap,hc,hnum=>
  rw[a5p rfl];exact c6V t [] g o cap w hl hg hcap hc hnum (by simp)
 | [d],hl,hcap,hc,hnum=>
  rw[a5p rfl];exact c6V t [d] g o cap w hl hg hcap hc hnum (by simp)
 | d::u::r,hl,hcap,hc,hnum=>
  by_cases hs:t.text=[99]
  ·by_cases hd:d.kind=46
   ·cases hb:d.blank with
    | true=>
     (rw[a5p (by simp[Pn.cfm,hb])]);exact c8J t d u r _ g o cap w hl hg hcap hc hnum rfl hs hd hb
    | false=>
     cases hu:u.blank with
     | true=>
      (rw[a5p (by simp[Pn.cfm,hu])]);exact c8O t d u r _ g o cap w hl hg hcap hc hnum rfl hs hd hb hu
     | false=>
      (have e:Pn.stR t (d::u::r)=Pn.cR (Pn.plain u r false):=by unfold Pn.stR;rw[if_pos (by simp[Pn.cfm,hs,hd,hb,hu])]);(rw[e,show (d::u::r).length+1=r.length+3 by simp]);exact c97 t d u r g o cap w (by simp at hl;omega) hg (by simp at hcap;omega) hc hs hd hb hu
   ·rw[a5p (by simp[Pn.cfm,hd])]
    exact c8w t d u r _ g o cap w hl hg hcap hc hnum rfl hs hd
  ·rw[a5p (by simp[Pn.cfm,hs])]
   exact c9F t _ g o cap w (by simp) hl hg hcap hc hnum hs
