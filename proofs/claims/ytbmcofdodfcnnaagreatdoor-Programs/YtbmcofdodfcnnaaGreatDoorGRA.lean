import Derived.Test.YtbmcofdodfcnnaaGreatDoorGPG
import Derived.Test.YtbmcofdodfcnnaaGreatDoorGLA
import Derived.Test.YtbmcofdodfcnnaaGreatDoorGW38
import Derived.Test.YtbmcofdodfcnnaaGreatDoorGM55
import Derived.Test.YtbmcofdodfcnnaaGreatDoorGW39
set_option linter.all false
set_option maxHeartbeats 400000000
set_option maxRecDepth 100000
namespace Pn
open Go
theorem c9X {A:List Tok} (h:A.length=1):∃a,A=[a]:=by
 match A,h with | [a],_=>exact ⟨a,rfl⟩
theorem c4M {A:List Tok} (hA:∀t∈A,a3i t) (i:Ins):a0i [100,44,115] (A.map conv) i []=(a0r A [114,44,114] [] 0 ⟨#[]⟩).map fun x=>({ i with rd:=x.1.getD 0 0,rs1:=x.1.getD 1 0 },[]):=by
 by_cases hl:¬A.length=3
 ·rw[a1c _ _ _ _ _ (by simpa using hl),a0G _ _ _ _ (by simpa using hl)];rfl
 replace hl:=Classical.not_not.1 hl;obtain ⟨a,b,c,rfl⟩:=c2r hl;rw[a0m,b6U,a8D (hA a (by simp))]
 cases a2l a.text with
 | none=>rfl
 | some v0=>
  simp only[Option.map_some,Option.bind_some];rw[a0m,a3I,a8U (hA b (by simp)) 44 (by simp)]
  by_cases hq1:¬b.text=[44]
  ·rw[if_neg hq1,if_neg hq1];rfl
  replace hq1:=Classical.not_not.1 hq1;rw[if_pos hq1,if_pos hq1,Option.bind_some];rw[a0m,b9U,a8D (hA c (by simp))]
  cases a2l c.text with
  | none=>rfl
  | some v2=>
   simp only[Option.map_some,Option.bind_some];rw[a1X,a0J];rfl
theorem c5y {A:List Tok} (hA:∀t∈A,a3i t) (i:Ins):a0i [100,44,116] (A.map conv) i []=(a0r A [114,44,114] [] 0 ⟨#[]⟩).map fun x=>({ i with rd:=x.1.getD 0 0,rs2:=x.1.getD 1 0 },[]):=by
 by_cases hl:¬A.length=3
 ·rw[a1c _ _ _ _ _ (by simpa using hl),a0G _ _ _ _ (by simpa using hl)];rfl
 replace hl:=Classical.not_not.1 hl;obtain ⟨a,b,c,rfl⟩:=c2r hl;rw[a0m,b6U,a8D (hA a (by simp))]
 cases a2l a.text with
 | none=>rfl
 | some v0=>
  simp only[Option.map_some,Option.bind_some];rw[a0m,a3I,a8U (hA b (by simp)) 44 (by simp)]
  by_cases hq1:¬b.text=[44]
  ·rw[if_neg hq1,if_neg hq1];rfl
  replace hq1:=Classical.not_not.1 hq1;rw[if_pos hq1,if_pos hq1,Option.bind_some];rw[a0m,c7T,a8D (hA c (by simp))]
  cases a2l c.text with
  | none=>rfl
  | some v2=>
   simp only[Option.map_some,Option.bind_some];rw[a1X,a0J];rfl
theorem c9E {A:List Tok} (hA:∀t∈A,a3i t) (i:Ins):a0i [100,44,105] (A.map conv) i []=(a0r A [114,44,105] [] 0 ⟨#[]⟩).map fun x=>({ i with rd:=x.1.getD 0 0,imm:=x.2.1 },[]):=by
 by_cases hl:¬A.length=3
 ·rw[a1c _ _ _ _ _ (by simpa using hl),a0G _ _ _ _ (by simpa using hl)];rfl
 replace hl:=Classical.not_not.1 hl;obtain ⟨a,b,c,rfl⟩:=c2r hl;rw[a0m,b6U,a8D (hA a (by simp))]
 cases a2l a.text with
 | none=>rfl
 | some v0=>
  simp only[Option.map_some,Option.bind_some];rw[a0m,a3I,a8U (hA b (by simp)) 44 (by simp)]
  by_cases hq1:¬b.text=[44]
  ·rw[if_neg hq1,if_neg hq1];rfl
  replace hq1:=Classical.not_not.1 hq1;rw[if_pos hq1,if_pos hq1,Option.bind_some];rw[a0m,c02,c2P (hA c (by simp))]
  cases a4U (ck c.kind) c.text with
  | none=>rfl
  | some v2=>
   simp only[Option.map_some,Option.bind_some];rw[a1X,a0J];rfl
theorem d0e {A:List Tok} (hA:∀t∈A,a3i t) (i:Ins):a0i [105] (A.map conv) i []=(a0r A [105] [] 0 ⟨#[]⟩).map fun x=>({ i with imm:=x.2.1 },[]):=by
 by_cases hl:¬A.length=1
 ·rw[a1c _ _ _ _ _ (by simpa using hl),a0G _ _ _ _ (by simpa using hl)];rfl
 replace hl:=Classical.not_not.1 hl;obtain ⟨c,rfl⟩:=c9X hl;rw[a0m,c02,c2P (hA c (by simp))]
 cases a4U (ck c.kind) c.text with
 | none=>rfl
 | some v2=>
  simp only[Option.map_some,Option.bind_some];rw[a1X,a0J];rfl
theorem c5C {A:List Tok} (hA:∀t∈A,a3i t) (i:Ins) (hi:i.imm=0):a0i [115,44,112] (A.map conv) i []=(a0r A [114,44,116] [] 0 ⟨#[]⟩).map fun x=>({ i with rs1:=x.1.getD 0 0,imm:=x.2.1 },x.2.2.data.toList):=by
 by_cases hl:¬A.length=3
 ·rw[a1c _ _ _ _ _ (by simpa using hl),a0G _ _ _ _ (by simpa using hl)];rfl
 replace hl:=Classical.not_not.1 hl;obtain ⟨a,b,c,rfl⟩:=c2r hl;rw[a0m,b9U,a8D (hA a (by simp))]
 cases a2l a.text with
 | none=>rfl
 | some v0=>
  simp only[Option.map_some,Option.bind_some];rw[a0m,a3I,a8U (hA b (by simp)) 44 (by simp)]
  by_cases hq1:¬b.text=[44]
  ·rw[if_neg hq1,if_neg hq1];rfl
  replace hq1:=Classical.not_not.1 hq1;rw[if_pos hq1,if_pos hq1,Option.bind_some];rw[a0m,c7V,c8c (hA c (by simp))]
  by_cases hn:a4x (ck c.kind) c.text=true
  ·rw[if_pos hn,if_pos hn,Option.bind_some]
   rw[a1X,a0J];simp only[Option.map_some,tS,hi];rfl
  ·rw[if_neg hn,if_neg hn]
   cases a4U (ck c.kind) c.text with
   | none=>rfl
   | some v2=>
    simp only[Option.map_some,Option.bind_some];rw[a1X,a0J];rfl
theorem c99 {A:List Tok} (hA:∀t∈A,a3i t) (i:Ins) (hi:i.imm=0):a0i [112] (A.map conv) i []=(a0r A [116] [] 0 ⟨#[]⟩).map fun x=>({ i with imm:=x.2.1 },x.2.2.data.toList):=by
 by_cases hl:¬A.length=1
 ·rw[a1c _ _ _ _ _ (by simpa using hl),a0G _ _ _ _ (by simpa using hl)];rfl
 replace hl:=Classical.not_not.1 hl;obtain ⟨c,rfl⟩:=c9X hl;rw[a0m,c7V,c8c (hA c (by simp))]
 by_cases hn:a4x (ck c.kind) c.text=true
 ·rw[if_pos hn,if_pos hn,Option.bind_some]
  rw[a1X,a0J];simp only[Option.map_some,tS];rw[<-hi]
 ·rw[if_neg hn,if_neg hn]
  cases a4U (ck c.kind) c.text with
  | none=>rfl
  | some v2=>
   simp only[Option.map_some,Option.bind_some];rw[a1X,a0J];rfl
theorem c9O {A:List Tok} (i:Ins):a0i [] (A.map conv) i []=(a0r A [] [] 0 ⟨#[]⟩).map fun _=>(i,[]):=by
 cases A with
 | nil=>rw[a1X,a0J];rfl
 | cons t A=>rw[a8m,b1i];rfl
def a3D (p:Rp):Prt:=if p.sh then ⟨a2I 2 (a0q p.ins).1,a1U,[]⟩ else ⟨p.bt,p.ins,p.tg⟩
theorem c17 (l:List Prt):(l.map c5d).map a3D=l:=by
 rw[List.map_map];exact List.map_id l
theorem a47 {t:Tok} (h:a3i t):(46:UInt8)∉t.text:=by
 rcases h with ⟨_,h,_⟩|⟨_,h,_⟩|⟨hk,c,h,hc,_⟩
 ·intro hm
  have:=h 46 hm
  revert this
  decide
 ·exact a9r h
 ·rw[h]
  intro hm;have:=List.mem_singleton.1 hm;subst this;have e:((46:UInt8).toNat:Int)=46:=by decide
  omega
theorem a1l {t:Tok} (h:a3i t) {c:UInt8} {r:List UInt8} (ht:t.text=c::r) (hc:a0o c.toNat=true):t.kind=119:=by
 rcases h with ⟨hk,_⟩|⟨_,_,c',r',h,hs⟩|⟨_,c',h,_,hs⟩
 ·exact hk
 ·rw[ht]at h
  injection h with h _
  subst h;rw[hc]at hs;cases hs
 ·rw[ht]at h
  injection h with h _
  subst h;rw[hc]at hs;cases hs
theorem a8t {t:Tok} (h:a3i t):t.kind≠46:=by
 rcases h with ⟨hk,_⟩|⟨hk,_⟩|⟨hk,_⟩<;>omega
theorem c0L {t:Tok} {l:List Tok} (h:∀u∈t::l,a3i u):cfm t l=false:=by
 match l,h with
 | [],_=>rfl
 | [_],_=>rfl
 | d::u::r,h=>
  have:=a8t (h d (by simp))
  simp[cfm,this]
theorem b5o:∀k,k<64->b6y (row k).name=none/\(row k).name≠[108,105]/\other (row k).name=none:=by decide
theorem a2j (l:List UInt8):(⟨l.toArray⟩:ByteArray).data.toList=l:=by simp
theorem c33 {T:List UInt8} (h:(46:UInt8)∉T):Lib.hasPrefix T [99,46]=false:=by
 cases hp:Lib.hasPrefix T [99,46] with
 | false=>rfl
 | true=>
  exfalso;unfold Lib.hasPrefix at hp;obtain ⟨r,hr⟩:=List.isPrefixOf_iff_prefix.1 hp;exact h (by rw[<-hr];simp)
theorem c3G {T:List UInt8} (h:(46:UInt8)∉T):dsz T=0:=by
 unfold dsz;rw[if_neg (fun e=>h (by rw[e];simp)),if_neg (fun e=>h (by rw[e];simp)),if_neg (fun e=>h (by rw[e];simp))]
theorem a6m {T:List UInt8} (h:(46:UInt8)∉T) (l:List Pc):rst ⟨T.toArray⟩ l=if T=[108,105] then a4u l else if (a2K ⟨T.toArray⟩ l).2=0 then ([(a2K ⟨T.toArray⟩ l).1],0) else ([],(a2K ⟨T.toArray⟩ l).2):=by
 unfold rst;rw[a2j,c33 h,c3G h];simp
theorem b35 {T:List UInt8} {A:List Tok} {s:Ins×List UInt8} (hn:nmd ⟨T.toArray⟩=some s) {F:List UInt8} {g:List Int×Int×ByteArray->Ins×List UInt8}
    (hs:a0i s.2 (A.map conv) s.1 []=(a0r A F [] 0 ⟨#[]⟩).map g):
    (if (a2K ⟨T.toArray⟩ (A.map conv)).2=0 then ([(a2K ⟨T.toArray⟩ (A.map conv)).1],(0:Int)) else ([],(a2K ⟨T.toArray⟩ (A.map conv)).2)) =
     match a0r A F [] 0 ⟨#[]⟩ with|none=>([],4)|some x=>if right (g x).1 then ([⟨[],(g x).1,(g x).2⟩],0) else ([],5):=by
 unfold a2K;rw[hn];simp only[hs]
 cases a0r A F [] 0 ⟨#[]⟩ with
 | none=>rfl
 | some x=>
  simp only[Option.map_some];cases hr:right (g x).1<;>simp
theorem a3B {A:List Tok} {t:Tok} {s:Ins×List UInt8} {F:List UInt8} {g:List Int×Int×ByteArray->Ins×List UInt8} (hA:∀u∈t::A,a3i u) (hf:(List.range 64).find? (a1v ⟨t.text.toArray⟩)=none)
    (ho:other t.text=some s) (hF:b6y t.text=some F) (hs:a0i s.2 (A.map conv) s.1 []=(a0r A F [] 0 ⟨#[]⟩).map g) (hk:t.kind=119) (hli:t.text≠[108,105])
    (hg:∀rs n nm,a0r A F [] 0 ⟨#[]⟩=some (rs,n,nm)->(g (rs,n,nm)).1=c5c t.text rs n/\(g (rs,n,nm)).2=nm.data.toList):
    rst ⟨t.text.toArray⟩ (A.map conv)=((a3d t A).1.map a3D,(a3d t A).2):=by
 rw[a6m (a47 (hA t (by simp))),if_neg hli]
 have hn:nmd ⟨t.text.toArray⟩=some s:=by unfold nmd;rw[hf];simp only[a2j];exact ho
 rw[b35 hn hs];unfold a3d;rw[hF];simp only
 cases hop:a0r A F [] 0 ⟨#[]⟩ with
 | none=>rfl
 | some x=>
  obtain ⟨rs,n,nm⟩:=x;rw[a1y hk,if_neg hli];obtain ⟨g1,g2⟩:=hg rs n nm hop;simp only[g1,g2];cases right (c5c t.text rs n)<;>rfl
theorem c5N {A:List Tok} {t:Tok} (hA:∀u∈t::A,a3i u) (ht:t.text=[108,105]) (hk:t.kind=119):rst ⟨t.text.toArray⟩ (A.map conv)=((a3d t A).1.map a3D,(a3d t A).2):=by
 rw[a6m (a47 (hA t (by simp))),if_pos ht]
 unfold a4u a3d;rw[ht,c9E (fun u hu=>hA u (by simp[hu])) a1U]
 show _=_
 cases hop:a0r A [114,44,105] [] 0 ⟨#[]⟩ with
 | none=>
  have e:b6y [108,105]=some [114,44,105]:=rfl;rw[e];simp only[hop];rfl
 | some x=>
  obtain ⟨rs,n,nm⟩:=x;have e:b6y [108,105]=some [114,44,105]:=rfl;rw[e];simp only[hop,Option.map_some];rw[a1y hk,if_pos rfl];unfold a6y
  split
  ·rfl
  ·simp only
   rw[c17]
theorem a28 {A:List Tok} {F:List UInt8} {rs:List Int} {n:Int} {nm:ByteArray} (h:a0r A F [] 0 ⟨#[]⟩=some (rs,n,nm)) (hF:116∉F):nm.data.toList=[]:=by
 rw[a5A _ _ _ _ _ _ _ _ h hF]
theorem c2g {A:List Tok} {t:Tok} (hA:∀u∈t::A,a3i u) (hf:(List.range 64).find? (a1v ⟨t.text.toArray⟩)=none):rst ⟨t.text.toArray⟩ (A.map conv)=((a3d t A).1.map a3D,(a3d t A).2):=by
 have hG:∀u∈A,a3i u:=fun u hu=>hA u (by simp[hu])
 have ht:=hA t (by simp)
 by_cases h1:t.text=[109,118]
 ·exact a3B hA hf (s:=(⟨29,0,0,0,0⟩,[100,44,115])) (F:=[114,44,114]) (by rw[h1];rfl) (by rw[h1];rfl) (c4M hG _) (a1l ht h1 (by decide)) (by rw[h1];decide) (fun rs n nm hop=>⟨by rw[h1];rfl,(a28 hop (by decide)).symm⟩)
 by_cases h2:t.text=[110,111,116]
 ·exact a3B hA hf (s:=(⟨32,0,0,0,-1⟩,[100,44,115])) (F:=[114,44,114]) (by rw[h2];rfl) (by rw[h2];rfl) (c4M hG _) (a1l ht h2 (by decide)) (by rw[h2];decide) (fun rs n nm hop=>⟨by rw[h2];rfl,(a28 hop (by decide)).symm⟩)
 by_cases h3:t.text=[110,101,103]
 ·exact a3B hA hf (s:=(⟨2,0,0,0,0⟩,[100,44,116])) (F:=[114,44,114]) (by rw[h3];rfl) (by rw[h3];rfl) (c5y hG _) (a1l ht h3 (by decide)) (by rw[h3];decide) (fun rs n nm hop=>⟨by rw[h3];rfl,(a28 hop (by decide)).symm⟩)
 by_cases h4:t.text=[115,101,113,122]
 ·exact a3B hA hf (s:=(⟨31,0,0,0,1⟩,[100,44,115])) (F:=[114,44,114]) (by rw[h4];rfl) (by rw[h4];rfl) (c4M hG _) (a1l ht h4 (by decide)) (by rw[h4];decide) (fun rs n nm hop=>⟨by rw[h4];rfl,(a28 hop (by decide)).symm⟩)
 by_cases h5:t.text=[115,110,101,122]
 ·exact a3B hA hf (s:=(⟨5,0,0,0,0⟩,[100,44,116])) (F:=[114,44,114]) (by rw[h5];rfl) (by rw[h5];rfl) (c5y hG _) (a1l ht h5 (by decide)) (by rw[h5];decide) (fun rs n nm hop=>⟨by rw[h5];rfl,(a28 hop (by decide)).symm⟩)
 by_cases h6:t.text=[98,101,113,122]
 ·exact a3B hA hf (s:=(⟨54,0,0,0,0⟩,[115,44,112])) (F:=[114,44,116]) (by rw[h6];rfl) (by rw[h6];rfl) (c5C hG _ rfl) (a1l ht h6 (by decide)) (by rw[h6];decide) (fun rs n nm hop=>⟨by rw[h6];rfl,rfl⟩)
 by_cases h7:t.text=[98,110,101,122]
 ·exact a3B hA hf (s:=(⟨55,0,0,0,0⟩,[115,44,112])) (F:=[114,44,116]) (by rw[h7];rfl) (by rw[h7];rfl) (c5C hG _ rfl) (a1l ht h7 (by decide)) (by rw[h7];decide) (fun rs n nm hop=>⟨by rw[h7];rfl,rfl⟩)
 by_cases h8:t.text=[106]
 ·exact a3B hA hf (s:=(⟨62,0,0,0,0⟩,[112])) (F:=[116]) (by rw[h8];rfl) (by rw[h8];rfl) (c99 hG _ rfl) (a1l ht h8 (by decide)) (by rw[h8];decide) (fun rs n nm hop=>⟨by rw[h8];rfl,rfl⟩)
 by_cases h9:t.text=[108,105]
 ·exact c5N hA h9 (a1l ht h9 (by decide))
 by_cases h10:t.text=[110,111,112]
 ·exact a3B hA hf (s:=(⟨29,0,0,0,0⟩,[])) (F:=[]) (by rw[h10];rfl) (by rw[h10];rfl) (c9O _) (a1l ht h10 (by decide)) (by rw[h10];decide) (fun rs n nm hop=>⟨by rw[h10];rfl,(a28 hop (by decide)).symm⟩)
 by_cases h11:t.text=[114,101,116]
 ·exact a3B hA hf (s:=(⟨49,0,1,0,0⟩,[])) (F:=[]) (by rw[h11];rfl) (by rw[h11];rfl) (c9O _) (a1l ht h11 (by decide)) (by rw[h11];decide) (fun rs n nm hop=>⟨by rw[h11];rfl,(a28 hop (by decide)).symm⟩)
 have e1:b6y t.text=none:=by unfold b6y;rw[if_neg h1,if_neg h2,if_neg h3,if_neg h4,if_neg h5,if_neg h6,if_neg h7,if_neg h8,if_neg h9,if_neg h10,if_neg h11]
 have e2:other t.text=none:=by unfold other;rw[if_neg h10,if_neg h1,if_neg h2,if_neg h3,if_neg h4,if_neg h5,if_neg h6,if_neg h7,if_neg h8,if_neg h11]
 rw[a6m (a47 ht),if_neg h9];have hn:nmd ⟨t.text.toArray⟩=none:=by unfold nmd;rw[hf];simp only[a2j];exact e2
 have hr:a2K ⟨t.text.toArray⟩ (A.map conv)=(b2E,4):=by unfold a2K;rw[hn]
 rw[hr];unfold a3d;rw[e1];rfl
theorem c32 {A:List Tok} {t:Tok} (hA:∀u∈t::A,a3i u):rst ⟨t.text.toArray⟩ (A.map conv)=((stR t A).1.map a3D,(stR t A).2):=by
 have ht:=hA t (by simp)
 rw[a5p (c0L hA)];unfold stN
 cases hf:(List.range 64).find? (named t) with
 | none=>
  rw[a1b hf];show _=((a7j t A).1.map a3D,(a7j t A).2);unfold a7j;rw[if_neg (a8t ht)];exact c2g hA (by rw[<-a4I ht];exact hf)
 | some k=>
  have hk64:k<64:=by have:=List.mem_of_find?_eq_some hf;simpa using this
  have hnm:t.text=(row k).name:=by have:=List.find?_some hf;simp[named]at this;exact this.2
  obtain ⟨n1,n2,n3⟩:=b5o k hk64;have hfb:(List.range 64).find? (a1v ⟨t.text.toArray⟩)=some k:=by rw[<-a4I ht];exact hf
  have hn:nmd ⟨t.text.toArray⟩=some (⟨k+1,0,0,0,0⟩,shp (row k).kind):=by unfold nmd;rw[hfb]
  rw[a6m (a47 ht),if_neg (by rw[hnm];exact n2),b35 hn (b7y hk64 (fun u hu=>hA u (by simp[hu])))]
  cases hop:a0r A (a0B (row k).kind) [] 0 ⟨#[]⟩ with
  | none=>
   rw[a2S hf hop];show _=((a7j t A).1.map a3D,(a7j t A).2);unfold a7j a3d;rw[if_neg (a8t ht),hnm,n1];rfl
  | some x=>
   obtain ⟨rs,n,nm⟩:=x;rw[a6L (tg:=true) hf hop (.inr rfl)];simp only[both];by_cases hr:right (a2m k rs n)=true
   ·simp only[hr,if_true];rfl
   ·have hr':right (a2m k rs n)=false:=by simpa using hr
    simp only[hr',Bool.false_eq_true,if_false];rfl
def lnT (T:List Tok):List UInt8×List Rp×Int:=
 match b9W T with
 | (none,l)=>([],(stL l).1,(stL l).2)
 | (some t,l)=>if 8<t.text.length then ([],[],4) else if (stL l).2=0 then (t.text,(stL l).1,0) else ([],[],(stL l).2)
def lnL (L:List UInt8):List UInt8×List Rp×Int:=match a00 L false with
 | none=>([],[],4)
 | some T=>lnT T
def c4T (x:List UInt8×List Rp×Int):List UInt8×List Prt×Int:=(x.1,x.2.1.map a3D,x.2.2)
theorem c3y (t:Tok) (l:List Tok):(stR t l).2≠0->(stR t l).1=[]:=by
 unfold stR
 split
 ·split
  ·unfold cR
   split
   ·split
    ·intro h;exact absurd rfl h
    ·intro _;rfl
   ·intro _;rfl
  ·intro _;rfl
 ·unfold stN
  split
  ·intro h;exact absurd rfl h
  ·split
   ·intro _;rfl
   ·unfold a7j
    split
    ·unfold b1L
     split
     ·intro _;rfl
     ·split
      ·intro _;rfl
      ·unfold a6T
       split
       ·intro _;rfl
       ·split
        ·intro _;rfl
        ·split
         ·intro _;rfl
         ·intro h;exact absurd rfl h
    ·unfold a3d
     split
     ·intro _;rfl
     ·unfold b5v
      split
      ·intro _;rfl
      ·split
       ·split
        ·unfold a6y
         split
         ·intro _;rfl
         ·intro h;exact absurd rfl h
        ·split
         ·intro h;exact absurd rfl h
         ·intro _;rfl
       ·intro _;rfl
theorem b18 {T F:List UInt8} (h:b6y T=some F):∀f∈F,f≠58/\f≠46:=by
 unfold b6y at h
 repeat' split at h
 all_goals first
  | (injection h with h;subst h;decide)
  | cases h
theorem a73 {T:List UInt8} (h:∃d∈T,a0o d.toNat=false):other T=none:=by
 cases ho:other T with
 | none=>rfl
 | some s=>
  exfalso;obtain ⟨d,hd,hs⟩:=h
  have key:∀T s,other T=some s->∀d∈T,a0o d.toNat=true:=by
   intro T s ho;unfold other at ho
   repeat' split at ho
   all_goals first
    | (rename_i e;subst e;decide)
    | cases ho
    | (rename_i e;rw[e];decide)
  rw[key T s ho d hd]at hs;cases hs
theorem b7G {T:List UInt8} {s:Ins×List UInt8} (h:other T=some s):Alt s.2:=by
 unfold other at h
 repeat' split at h
 all_goals first
  | (injection h with h;subst h;simp[Alt,c0b])
  | cases h
theorem c4S {nm:ByteArray} {s:Ins×List UInt8} (h:nmd nm=some s):Alt s.2:=by
 unfold nmd at h
 split at h
 ·rename_i k hk
  have hk64:k<64:=by have:=List.mem_of_find?_eq_some hk;simpa using this
  injection h with h
  subst h;exact a99 (a02 k hk64)
 ·exact b7G h
theorem c4n {p:Pc} {l:List Pc} (hw:WfP (p::l)) (ha:Adj (p::l)):rst ⟨p.2.toArray⟩ l=([],4):=by
 obtain ⟨j,a,b,h1,h2,h3,h4⟩:=ha;obtain ⟨c,r,hc1,hc2⟩:=hw p (by simp)
 have hwl:WfP l:=fun q hq=>hw q (by simp[hq])
 cases j with
 | zero=>
  simp at h1;subst h1
  have hs:a0o c.toNat=false/\c≠46/\c≠99:=by
   rw[h3]at hc2;refine ⟨?_,?_,?_⟩
   ·cases hs:a0o c.toNat with
    | false=>rfl
    | true=>simp[beg,hs]at hc2
   ·rintro rfl;revert hc2;decide
   ·rintro rfl;revert hc2;decide
  have hn:nmd ⟨p.2.toArray⟩=none:=by
   unfold nmd;(rw[a2Y ⟨c,by rw[hc1];simp,hs.1⟩]);simp only[a2j];exact a73 ⟨c,by rw[hc1];simp,hs.1⟩
  unfold rst;rw[a2j,hc1]
  have e1:Lib.hasPrefix (c::r) [99,46]=false:=by
   unfold Lib.hasPrefix;simp[List.isPrefixOf,Ne.symm hs.2.2]
  have e2:dsz (c::r)=0:=by
   unfold dsz;rw[if_neg (fun e=>by injection e with e;exact hs.2.1 e),if_neg (fun e=>by injection e with e;exact hs.2.1 e),if_neg (fun e=>by injection e with e;exact hs.2.1 e)]
  have e3:c::r≠[108,105]:=by
   intro e;(injection e with e);subst e;exact absurd hs.1 (by decide)
  have e4:a2K ⟨(c::r).toArray⟩ l=(b2E,4):=by
   rw[<-hc1];unfold a2K;rw[hn]
  rw[e1,e2,e4];simp[e3]
 | succ j=>
  have hal:Adj l:=⟨j,a,b,by simpa using h1,by simpa using h2,h3,h4⟩
  unfold rst
  split
  ·unfold a4m
   (rw[a1V (fun k hk=>a13 _ _ _ _ (a99 (a02 k hk)) hwl hal)]);rfl
  ·split
   ·unfold a3F
    rw[a13 _ _ _ _ (by simp[Alt]) hwl hal]
   ·split
    ·unfold a4u
     rw[a13 _ _ _ _ (by simp[Alt,c0b]) hwl hal]
    ·have e4:a2K ⟨p.2.toArray⟩ l=(b2E,4):=by
      unfold a2K
      cases hn:nmd ⟨p.2.toArray⟩ with
      | none=>rfl
      | some s=>
       simp only;rw[a13 _ _ _ _ (c4S hn) hwl hal]
     rw[e4];rfl
theorem b6j (nm:List UInt8) {A:List Tok} (hA:∀u∈A,a3i u):a1O nm (A.map conv)=if (stL A).2=0 then (nm,(stL A).1.map a3D,0) else ([],[],(stL A).2):=by
 cases A with
 | nil=>rfl
 | cons t A=>
  simp only[List.map_cons,a1O,conv,stL];rw[c32 hA];rfl
def E4:List UInt8×List Prt×Int:=([],[],4)
def stO (nm:List UInt8) (st:List Rp×Int):List UInt8×List Prt×Int:=if st.2=0 then (nm,st.1.map a3D,0) else ([],[],st.2)
def PS (nm:List UInt8) (q:Option (List Pc)):List UInt8×List Prt×Int:=match q with
 | none=>E4
 | some l=>a1O nm l
def RS (nm:List UInt8) (o:Option (List Tok)):List UInt8×List Prt×Int:=match o with
 | none=>E4
 | some T=>stO nm (stL T)
theorem b02 {c:UInt8} (h:a0s c=true):goes 1 c.toNat=true:=by
 unfold a0s at h;unfold goes;simp only[if_true];rw[h,Bool.true_or]
theorem b8w {c:UInt8} (h:goes 1 c.toNat=true) (hc:a0s c=false):c=46:=by
 unfold goes at h;unfold a0s at hc;simp only[if_true,hc,Bool.false_or,beq_iff_eq]at h;exact a3W (n:=46) h
theorem c7C {c:UInt8} (h:goes 1 c.toNat=false):a0s c=false:=by
 cases ha:a0s c with
 | false=>rfl
 | true=>rw[b02 ha]at h;cases h
theorem b5L:∀r:List UInt8,(46:UInt8)∉r.takeWhile (fun c=>goes 1 c.toNat)->r.takeWhile a0s=r.takeWhile (fun c=>goes 1 c.toNat)/\r.dropWhile a0s=r.dropWhile (fun c=>goes 1 c.toNat)
 | [],_=>⟨rfl,rfl⟩
 | c::r,h=>by
  cases hg:goes 1 c.toNat with
  | false=>simp[List.takeWhile_cons,List.dropWhile_cons,hg,c7C hg]
  | true=>
   (have e:(c::r).takeWhile (fun c=>goes 1 c.toNat)=c::r.takeWhile (fun c=>goes 1 c.toNat):=by simp[List.takeWhile_cons,hg]);rw[e]at h
   have ha:a0s c=true:=by
    cases ha:a0s c with
    | true=>rfl
    | false=>exact absurd (by rw[b8w hg ha];simp) h
   (have ih:=b5L r (fun hm=>h (by simp[hm])));simp[List.takeWhile_cons,List.dropWhile_cons,hg,ha,ih.1,ih.2]
theorem b9f:∀r:List UInt8,(46:UInt8)∈r.takeWhile (fun c=>goes 1 c.toNat)->∃q,r.dropWhile a0s=46::q
 | [],h=>by cases h
 | c::r,h=>by
  cases hg:goes 1 c.toNat with
  | false=>simp[List.takeWhile_cons,hg]at h
  | true=>
   cases ha:a0s c with
   | false=>
    have:=b8w hg ha;subst this;exact ⟨r,by simp[List.dropWhile_cons,ha]⟩
   | true=>
    have hne:c≠46:=by rintro rfl;exact absurd ha (by decide)
    have h2:(46:UInt8)∈r.takeWhile (fun c=>goes 1 c.toNat):=by
     simp[List.takeWhile_cons,hg]at h;rcases h with h|h
     ·exact absurd h.symm hne
     ·exact h
    obtain ⟨q,hq⟩:=b9f r h2;exact ⟨q,by simp[List.dropWhile_cons,ha,hq]⟩
theorem b03:∀(n:Nat) (r:List UInt8) (u:Tok) (T:List Tok),r.length<=n->a00 r true=some (u::T)->u.blank=true
 | n,[],u,T,_,h=>by rw[a3o]at h;cases h
 | 0,c::r,_,_,h,_=>by simp at h
 | n+1,c::r,u,T,hl,h=>by
  by_cases h35:c=35
  ·rw[a4K _ _ _ h35]at h;cases h
  ·by_cases hb:c=32\/c=9
   ·rw[a1q _ _ _ hb]at h
    exact b03 n r u T (by simpa using hl) h
   ·cases ht:a2x c r with
    | none=>rw[a0v _ _ _ h35 hb ht]at h;cases h
    | some x=>
     obtain ⟨k,v,m⟩:=x;rw[a0X _ _ _ h35 hb _ _ _ ht]at h
     cases hT:a00 (r.drop m) false with
     | none=>rw[hT]at h;cases h
     | some T'=>
      rw[hT]at h;(injection h with h);(injection h with h _);rw[<-h]
theorem b4Y {r:List UInt8} {u:Tok} {T:List Tok} (h35:(35:UInt8)∉r) (h:a00 r false=some (u::T)) (hb:u.blank=false):
    ∃d r' k v m,r=d::r'/\a2x d r'=some (k,v,m)/\u=⟨k,d::r'.take m,v,false⟩/\a00 (r'.drop m) false=some T:=by
 match r,h35,h with
 | [],_,h=>rw[a3o]at h;cases h
 | d::r',h35,h=>
  have hd:d≠35:=fun e=>h35 (by simp[e])
  by_cases hbl:d=32\/d=9
  ·rw[a1q _ _ _ hbl]at h
   have:=b03 r'.length r' u T (Nat.le_refl _) h;rw[this]at hb;cases hb
  ·cases ht:a2x d r' with
   | none=>rw[a0v _ _ _ hd hbl ht]at h;cases h
   | some x=>
    obtain ⟨k,v,m⟩:=x;rw[a0X _ _ _ hd hbl _ _ _ ht]at h
    cases hT:a00 (r'.drop m) false with
    | none=>rw[hT]at h;cases h
    | some T'=>
     rw[hT]at h;(injection h with h);(injection h with h1 h2);subst h2;exact ⟨d,r',k,v,m,rfl,ht,h1.symm,hT⟩
theorem b4e {c:UInt8} {r:List UInt8} {v:Int} {m:Nat} (h:a2x c r=some (119,v,m)):a0o c.toNat=true/\m=(r.takeWhile a0s).length/\v=0:=by
 unfold a2x at h
 split at h
 ·rename_i hs
  injection h with h
  injection h with _ h
  injection h with h1 h2
  exact ⟨hs,h2.symm,h1.symm⟩
 ·split at h
  ·split at h
   ·cases h
   ·split at h
    ·cases h
    ·injection h with h;injection h with h _;omega
  ·split at h
   ·split at h
    ·cases h
    ·split at h
     ·cases h
     ·injection h with h;injection h with h _;omega
   ·split at h
    ·rename_i hc
     (injection h with h);(injection h with h _);exfalso;rcases hc with rfl|rfl|rfl|rfl|rfl<;>revert h<;>decide
    ·cases h
theorem b2r {r:List UInt8} {u:Tok} {T:List Tok} (h35:(35:UInt8)∉r) (h:a00 r false=some (u::T)) (hb:u.blank=false) (hk:u.kind=119):
    u.text=r.takeWhile a0s/\a00 (r.dropWhile a0s) false=some T/\(∀c∈u.text,a0s c=true)/\∃c q,u.text=c::q/\a0o c.toNat=true:=by
 obtain ⟨d,r',k,v,m,rfl,ht,rfl,hT⟩:=b4Y h35 h hb;simp only at hk;subst hk;obtain ⟨hs,hm,_⟩:=b4e ht;have ha:a0s d=true:=by simp[a0s,hs]
 have e1:(d::r').takeWhile a0s=d::r'.takeWhile a0s:=by simp[List.takeWhile_cons,ha]
 have e2:(d::r').dropWhile a0s=r'.dropWhile a0s:=by simp[List.dropWhile_cons,ha]
 have e3:r'.take m=r'.takeWhile a0s:=by rw[hm,a2F]
 have e4:r'.drop m=r'.dropWhile a0s:=by rw[hm,a7U]
 rw[e1,e2];rw[e4]at hT;simp only[e3];refine ⟨by first|trivial|rfl,hT,fun c hc=>?_,d,_,rfl,hs⟩
 rcases List.mem_cons.1 hc with rfl|hc
 ·exact ha
 ·exact a40 a0s r' c hc
theorem a9O {W Z:List UInt8} (hW:∀c∈W,a0s c=true) (hs:∃c q,W=c::q/\a0o c.toNat=true) (hZ:Z=[]\/∃c q,Z=c::q/\a0s c=false) (b:Bool):a00 (W++Z) b=(a00 Z false).map (⟨119,W,0,b⟩::·):=by
 obtain ⟨c,q,rfl,hc⟩:=hs;have h35:c≠35:=by rintro rfl;exact absurd hc (by decide)
 have hbl:¬(c=32\/c=9):=by rintro (rfl|rfl)<;>exact absurd hc (by decide)
 have e1:(q++Z).takeWhile a0s=q:=by
  have hq:∀d∈q,a0s d=true:=fun d hd=>hW d (by simp[hd])
  rw[List.takeWhile_append_of_pos hq];rcases hZ with rfl|⟨d,z,rfl,hd⟩
  ·simp
  ·simp[List.takeWhile_cons,hd]
 rw[List.cons_append,a0X c (q++Z) b h35 hbl 119 0 q.length (a4R c _ hc _ (by rw[e1]))]
 simp
theorem b0i (T:List UInt8):dsz (46::T)=b6v T:=by
 unfold dsz b6v;simp only[List.cons.injEq,true_and]
 split
 ·rfl
 ·split
  ·rfl
  ·split<;>rfl
theorem b8d (o:Option (List Int×Int×ByteArray)):a6T 0 o=([],4):=by
 cases o with
 | none=>rfl
 | some x=>rfl
theorem b9G {T:List UInt8} (h:dsz (46::T)=0) (l:List Pc):rst ⟨(46::T).toArray⟩ l=([],4):=by
 have hb:∃d∈(46::T:List UInt8),a0o d.toNat=false:=⟨46,by simp,by decide⟩
 have hn:nmd ⟨(46::T).toArray⟩=none:=by
  unfold nmd;rw[a2Y hb];simp only[a2j];exact a73 hb
 have e1:Lib.hasPrefix (46::T) [99,46]=false:=by
  unfold Lib.hasPrefix;simp[List.isPrefixOf]
 have e4:a2K ⟨(46::T).toArray⟩ l=(b2E,4):=by unfold a2K;rw[hn]
 unfold rst;rw[a2j,e1,h,e4];simp
theorem b7q {t:Tok} (h1:t.kind=46) (h2:t.text=[46]) (A:List Tok):stR t A=b1L A:=by
 have hc:cfm t A=false:=by
  unfold cfm
  split
  ·simp[h2]
  ·rfl
 have hf:(List.range 64).find? (named t)=none:=List.find?_eq_none.2 (fun k _=>by simp[named,h1])
 rw[a5p hc,a1b hf];show a7j t A=b1L A;unfold a7j;rw[if_pos h1]
theorem a9l {nm:List UInt8} {p:Pc} {q:Option (List Pc)} (h:∀l,q=some l->rst ⟨p.2.toArray⟩ l=([],4)):PS nm (q.map (p::·))=E4:=by
 cases q with
 | none=>rfl
 | some l=>
  show a1O nm (p::l)=E4;simp only[a1O];rw[h l rfl];rfl
theorem b15 {nm:List UInt8} {o:Option (List Tok)} (h:∀T,o=some T->stL T=([],4)):RS nm o=E4:=by
 cases o with
 | none=>rfl
 | some T=>
  show stO nm (stL T)=E4;rw[h T rfl];rfl
theorem b0O {c:UInt8} (hc:beg c.toNat=some 1) (r:List UInt8):a1d (c::r) 0 []=(a1d (r.dropWhile fun c=>goes 1 c.toNat) 0 []).map ((1,c::r.takeWhile fun c=>goes 1 c.toNat)::·):=by
 rw[a08,hc,Option.bind_some,a3n];have he:a36 1 ([c]++r.takeWhile fun c=>goes 1 c.toNat)=some [(1,c::r.takeWhile fun c=>goes 1 c.toNat)]:=a4l rfl (by simp[a5m])
 rw[he];rfl
theorem c1A {size:Nat} (hs:size≠0) {A:List Tok} (hA:∀u∈A,a3i u):a3F size (A.map conv)=((a6T size (a0r A [105] [] 0 ⟨#[]⟩)).1.map a3D,(a6T size (a0r A [105] [] 0 ⟨#[]⟩)).2):=by
 unfold a3F;rw[d0e hA a1U]
 cases a0r A [105] [] 0 ⟨#[]⟩ with
 | none=>rfl
 | some x=>
  obtain ⟨rs,n,nm⟩:=x;simp only[Option.map_some];by_cases h:n<0\/2^(8*size)<=n
  ·rw[if_pos h,a33 hs h]
   rfl
  ·rw[if_neg h,b0x hs h]
   rfl
theorem a7Z {size:Nat} {l:List Pc} (h:a0i [105] l a1U []=none):a3F size l=([],4):=by
 unfold a3F;rw[h]
theorem c0P (r:List UInt8) (h35:(35:UInt8)∉r) (b:Bool) (nm:List UInt8):PS nm (a1d (46::r) 0 [])=RS nm (a00 (46::r) b):=by
 rw[b0O (by decide) r,a0X 46 r b (by decide) (by decide) 46 0 0 (a1S 46 r (by simp))]
 simp only[List.drop_zero,List.take_zero];have hst:∀T,stL (⟨46,[46],0,b⟩::T)=b1L T:=fun T=>b7q rfl rfl T
 by_cases hP:dsz (46::r.takeWhile fun c=>goes 1 c.toNat)=0
 ·rw[a9l (fun l _=>b9G hP l)]
  refine (b15 (fun T hT=>?_)).symm
  cases hr:a00 r false with
  | none=>rw[hr]at hT;cases hT
  | some T'=>
   rw[hr]at hT;(injection hT with hT);subst hT;rw[hst]
   match T',hr with
   | [],_=>rfl
   | u::A,hr=>
    unfold b1L;by_cases hb:u.blank=true\/u.kind≠119
    ·simp only[if_pos hb]
    ·simp only[if_neg hb]
     have hk:u.kind=119:=Classical.byContradiction (fun h=>hb (Or.inr h))
     have hbl:u.blank=false:=by
      cases h:u.blank with
      | false=>rfl
      | true=>exact absurd (Or.inl h) hb
     obtain ⟨h1,h2,_,_⟩:=b2r h35 hr hbl hk;by_cases hz:b6v u.text=0
     ·rw[hz,b8d]
     ·have hd:(46:UInt8)∈r.takeWhile (fun c=>goes 1 c.toNat):=Classical.byContradiction (fun hn=>by
       have e:=(b5L r hn).1;rw[b0i,<-e,<-h1]at hP;exact hz (by omega))
      obtain ⟨q,hq⟩:=b9f r hd;rw[hq]at h2;(have h35q:(35:UInt8)∉(46::q:List UInt8):=by rw[<-hq];exact b3P h35);(rw[a5a _ _ _ _ _ (a3l _ _ _ _ (Nat.le_refl _) (by simp) h35q h2) (by decide)]);rfl
 ·have hnd:(46:UInt8)∉r.takeWhile (fun c=>goes 1 c.toNat):=by
   intro hm;apply hP;unfold dsz;rw[if_neg (fun e=>by injection e with _ e;rw[e]at hm;revert hm;decide),if_neg (fun e=>by injection e with _ e;rw[e]at hm;revert hm;decide),if_neg (fun e=>by injection e with _ e;rw[e]at hm;revert hm;decide)]
  obtain ⟨e1,e2⟩:=b5L r hnd;have hW:∀c∈r.takeWhile a0s,a0s c=true:=a40 a0s r
  have hsm:∃c q,r.takeWhile a0s=c::q/\a0o c.toNat=true:=by
   rw[<-e1,b0i]at hP;unfold b6v at hP
   split at hP
   ·rename_i h;rw[h];exact ⟨_,_,rfl,by decide⟩
   ·split at hP
    ·rename_i h;rw[h];exact ⟨_,_,rfl,by decide⟩
    ·split at hP
     ·rename_i h;rw[h];exact ⟨_,_,rfl,by decide⟩
     ·exact absurd rfl hP
  have hr:a00 r false=(a00 (r.dropWhile a0s) false).map (⟨119,r.takeWhile a0s,0,false⟩::·):=by
   have:=a9O hW hsm (b0M a0s r) false;rw[List.takeWhile_append_dropWhile]at this;exact this
  have hZ35:(35:UInt8)∉r.dropWhile a0s:=b3P h35
  have hrs:∀l,rst ⟨(46::r.takeWhile fun c=>goes 1 c.toNat).toArray⟩ l=a3F (b6v (r.takeWhile a0s)) l:=fun l=>by
   unfold rst;rw[a2j]
   have q1:Lib.hasPrefix (46::r.takeWhile fun c=>goes 1 c.toNat) [99,46]=false:=by
    unfold Lib.hasPrefix;simp[List.isPrefixOf]
   rw[q1,if_neg (by decide),if_pos hP,b0i,e1,Int.toNat_natCast]
  have hz:b6v (r.takeWhile a0s)≠0:=by rw[b0i,<-e1]at hP;omega
  have hdr:∀A,b1L (⟨119,r.takeWhile a0s,0,false⟩::A)=a6T (b6v (r.takeWhile a0s)) (a0r A [105] [] 0 ⟨#[]⟩):=fun A=>by
   unfold b1L;simp only[if_neg (show ¬(false=true\/(119:Int)≠119) by decide)]
  rw[hr,<-e2];generalize r.dropWhile a0s=Z at *;generalize b6v (r.takeWhile a0s)=size at *;by_cases h46:(46:UInt8)∈Z
  ·rw[a9l (fun l hl=>by
    rw[hrs];obtain ⟨p,hp,hp1,hp2⟩:=a48 Z 0 [] l hl (Or.inl h46);exact a7Z (a3E _ _ _ _ ⟨p,hp,fun x hx i tg=>by rw[hp1];exact b0t hp2 x (by rw[List.mem_singleton.1 hx];unfold a7b;simp) i tg⟩))]
   refine (b15 (fun T hT=>?_)).symm
   cases hA:a00 Z false with
   | none=>rw[hA]at hT;cases hT
   | some A=>
    rw[hA]at hT;(injection hT with hT);subst hT;simp only[hst];(rw[hdr,a5a _ _ _ _ _ (a3l _ _ _ _ (Nat.le_refl _) h46 hZ35 hA) (by decide)]);rfl
  ·rcases a5j Z.length Z false (Nat.le_refl _) h46 hZ35 with ⟨A,q1,q2,hA⟩|⟨q1,q2|⟨ps,q2,ha⟩⟩
   ·rw[q1,q2]
    (show a1O nm ((1,46::r.takeWhile fun c=>goes 1 c.toNat)::A.map conv)=stO nm (stL (⟨46,[46],0,b⟩::⟨119,r.takeWhile a0s,0,false⟩::A)));simp only[a1O];rw[hst,hdr,hrs,c1A hz hA];rfl
   ·rw[q1,q2];rfl
   ·rw[q1,q2]
    rw[a9l (fun l hl=>by
     (injection hl with hl);subst hl;rw[hrs];exact a7Z (a13 _ _ _ _ (by simp[Alt]) (a5x Z 0 [] ps q2 (Or.inl rfl)) ha))]
    rfl
theorem c13:∀k,k<64->(row k).name≠[99]:=by decide
theorem c28 {t:Tok} (ht:t.text=[99]) (hk:t.kind=119) {A:List Tok} (hc:cfm t A=false):stR t A=([],4):=by
 have hf:(List.range 64).find? (named t)=none:=List.find?_eq_none.2 (fun k hk'=>by
  have:(row k).name≠[99]:=c13 k (by simpa using hk')
  simp[named,ht,hk,Ne.symm this])
 rw[a5p hc,a1b hf];show a7j t A=([],4);unfold a7j;rw[if_neg (by omega)]
 unfold a3d;rw[ht];rfl
theorem a7H {nm:ByteArray} {l:List Pc} (h:a0W nm l=(⟨0,0,0,0,0⟩,4)):a4m nm l=([],4):=by
 unfold a4m;rw[h];rfl
theorem b9h:∀k,k<64->(∀c∈(row k).name,a0s c=true)/\(46:UInt8)∉(row k).name/\∃c q,(row k).name=c::q/\a0o c.toNat=true:=fun k hk=>by
 obtain ⟨h1,h2⟩:=b2g k hk;refine ⟨fun c hc=>by simp[a0s,h2 c hc],fun hm=>absurd (h2 46 hm) (by decide),?_⟩
 cases hn:(row k).name with
 | nil=>exact absurd hn h1
 | cons c q=>exact ⟨c,q,rfl,h2 c (by rw[hn];simp)⟩
theorem c9T {p:Ins×ByteArray×Int} (h:p=(⟨0,0,0,0,0⟩,⟨#[]⟩,4)):cR p=([],4):=by rw[h];rfl
theorem b5y {u:Tok} {A:List Tok} (h:∀v∈u::A,a3i v):a4m ⟨u.text.toArray⟩ (A.map conv)=((cR (plain u A false)).1.map a3D,(cR (plain u A false)).2):=by
 unfold a4m cR;rw[b17 h];by_cases h0:(plain u A false).2.2=0
 ·simp only[if_pos h0,if_true]
  rw[a1p];by_cases hs:(a0q (plain u A false).1).2=0
  ·simp only[if_pos hs]
   rfl
  ·simp only[if_neg hs]
   rfl
 ·simp only[if_neg h0]
  rfl
theorem c3X (r:List UInt8) (h35:(35:UInt8)∉r) (b:Bool) (nm:List UInt8):PS nm (a1d (99::46::r) 0 [])=RS nm (a00 (99::46::r) b):=by
 have g46:goes 1 46=true:=by decide
 have a46:a0s 46=false:=by decide
 rw[b0O (by decide) (46::r),a0X 99 (46::r) b (by decide) (by decide) 119 0 0 (a4R 99 _ (by decide) _ (by simp[List.takeWhile_cons,a46]))]
 simp only[List.drop_zero,List.take_zero];rw[a0X 46 r false (by decide) (by decide) 46 0 0 (a1S 46 r (by simp))]
 simp only[List.drop_zero,List.take_zero];have eT:(46::r).takeWhile (fun c=>goes 1 c.toNat)=46::r.takeWhile (fun c=>goes 1 c.toNat):=by simp[List.takeWhile_cons,g46]
 have eD:(46::r).dropWhile (fun c=>goes 1 c.toNat)=r.dropWhile (fun c=>goes 1 c.toNat):=by simp[List.dropWhile_cons,g46]
 rw[eT,eD]
 have hrs:∀l,rst ⟨(99::46::r.takeWhile fun c=>goes 1 c.toNat).toArray⟩ l=a4m ⟨(r.takeWhile fun c=>goes 1 c.toNat).toArray⟩ l:=fun l=>by
  unfold rst;rw[a2j]
  have q1:Lib.hasPrefix (99::46::r.takeWhile fun c=>goes 1 c.toNat) [99,46]=true:=by
   unfold Lib.hasPrefix;simp[List.isPrefixOf]
  rw[if_pos q1];unfold Lib.trimPrefix;rw[if_pos q1];rfl
 cases hP:(List.range 64).find? (a1v ⟨(r.takeWhile fun c=>goes 1 c.toNat).toArray⟩) with
 | none=>
  rw[a9l (fun l _=>by rw[hrs];exact a7H (a2P hP))]
  refine (b15 (fun T hT=>?_)).symm
  cases hr:a00 r false with
  | none=>rw[hr]at hT;cases hT
  | some T'=>
   rw[hr]at hT;(injection hT with hT);subst hT;show stR _ _=_
   match T',hr with
   | [],_=>exact c28 rfl rfl rfl
   | u::A,hr=>
    cases hub:u.blank with
    | true=>exact c28 rfl rfl (by simp[cfm,hub])
    | false=>
     (have e:stR ⟨119,[99],0,b⟩ (⟨46,[46],0,false⟩::u::A)=cR (plain u A false):=by unfold stR;rw[if_pos (by simp[cfm,hub])]);rw[e];apply c9T
     cases hf:(List.range 64).find? (named u) with
     | none=>exact a1b hf A false
     | some k=>
      have hn:=List.find?_some hf;simp[named]at hn;(have hk64:k<64:=by have:=List.mem_of_find?_eq_some hf;simpa using this);obtain ⟨h1,h2,_,_⟩:=b2r h35 hr hub hn.1
      have hd:(46:UInt8)∈r.takeWhile (fun c=>goes 1 c.toNat):=Classical.byContradiction (fun hnd=>by
       have e:=(b5L r hnd).1;(have:=List.find?_eq_none.1 hP k (by simpa using hk64));apply this;unfold a1v;rw[a34,<-e,<-h1,hn.2];simp)
      obtain ⟨q,hq⟩:=b9f r hd;rw[hq]at h2;(have h35q:(35:UInt8)∉(46::q:List UInt8):=by rw[<-hq];exact b3P h35);(obtain ⟨v,hv,hvk⟩:=a3l _ _ _ _ (Nat.le_refl _) (by simp) h35q h2);exact a8g ⟨v,by simp[hv],hvk⟩
 | some k=>
  have hk64:k<64:=by have:=List.mem_of_find?_eq_some hP;simpa using this
  have hnm:r.takeWhile (fun c=>goes 1 c.toNat)=(row k).name:=by
   have:=List.find?_some hP;unfold a1v at this;rw[a34]at this;exact (eq_of_beq this).symm
  obtain ⟨hW,h46W,hsm⟩:=b9h k hk64;obtain ⟨e1,e2⟩:=b5L r (by rw[hnm];exact h46W)
  rw[hnm]at e1
  have hr:a00 r false=(a00 (r.dropWhile a0s) false).map (⟨119,(row k).name,0,false⟩::·):=by
   have:=a9O hW hsm (b0M a0s r) false;rw[<-e1,List.takeWhile_append_dropWhile]at this;rw[this,e1]
  have hZ35:(35:UInt8)∉r.dropWhile a0s:=b3P h35;rw[hr,<-e2];rw[hnm]at hrs ⊢;have hst:∀A,stR ⟨119,[99],0,b⟩ (⟨46,[46],0,false⟩::⟨119,(row k).name,0,false⟩::A)=cR (plain ⟨119,(row k).name,0,false⟩ A false):=fun A=>by unfold stR;rw[if_pos (by simp[cfm])]
  have hgu:a3i ⟨119,(row k).name,0,false⟩:=Or.inl ⟨rfl,hW,hsm⟩;generalize r.dropWhile a0s=Z at *;by_cases h46:(46:UInt8)∈Z
  ·rw[a9l (fun l hl=>by
    rw[hrs];obtain ⟨p,hp,hp1,hp2⟩:=a48 Z 0 [] l hl (Or.inl h46);exact a7H (c55 (p:=(1,(row k).name)) ⟨p,by simp[hp],hp1,hp2⟩))]
   refine (b15 (fun T hT=>?_)).symm
   cases hA:a00 Z false with
   | none=>rw[hA]at hT;cases hT
   | some A=>
    rw[hA]at hT;(injection hT with hT);subst hT;show stR _ _=_;rw[hst];obtain ⟨v,hv,hvk⟩:=a3l _ _ _ _ (Nat.le_refl _) h46 hZ35 hA;exact c9T (a8g ⟨v,by simp[hv],hvk⟩)
  ·rcases a5j Z.length Z false (Nat.le_refl _) h46 hZ35 with ⟨A,q1,q2,hA⟩|⟨q1,q2|⟨ps,q2,ha⟩⟩
   ·rw[q1,q2]
    show a1O nm ((1,99::46::(row k).name)::A.map conv)=stO nm (stR ⟨119,[99],0,b⟩ (⟨46,[46],0,false⟩::⟨119,(row k).name,0,false⟩::A));simp only[a1O]
    rw[hst,hrs,b5y (u:=⟨119,(row k).name,0,false⟩) (fun v hv=>by
     rcases List.mem_cons.1 hv with rfl|hv
     ·exact hgu
     ·exact hA v hv)]
    rfl
   ·rw[q1,q2];rfl
   ·rw[q1,q2]
    rw[a9l (fun l hl=>by
     (injection hl with hl);subst hl;rw[hrs];exact a7H (a1V (fun k hk=>a13 _ _ _ _ (a99 (a02 k hk)) (a5x Z 0 [] ps q2 (Or.inl rfl)) ha)))]
    rfl
theorem c4Q {p:Pc} {l:List Pc} (hpre:Lib.hasPrefix p.2 [99,46]=false) (hd:dsz p.2=0) (h:∃q∈p::l,q.1=1/\(46:UInt8)∈q.2):rst ⟨p.2.toArray⟩ l=([],4):=by
 obtain ⟨q,hq,h1,h2⟩:=h;unfold rst;rw[a2j,hpre,hd];simp only[Bool.false_eq_true,if_false,ne_eq,not_true_eq_false];have bad:∀F:List UInt8,(∀x∈F,a7b x)->q∈l->∀i tg,a0i F l i tg=none:=fun F hF hl i tg=>a3E _ _ _ _ ⟨q,hl,fun x hx i tg=>by rw[h1];exact b0t h2 x (hF x hx) i tg⟩
 rcases List.mem_cons.1 hq with rfl|hl
 ·have hli:q.2≠[108,105]:=by intro e;rw[e]at h2;revert h2;decide
  have hn:nmd ⟨q.2.toArray⟩=none:=by
   unfold nmd;(rw[a2Y ⟨46,h2,by decide⟩]);simp only[a2j];exact a73 ⟨46,h2,by decide⟩
  have e4:a2K ⟨q.2.toArray⟩ l=(b2E,4):=by unfold a2K;rw[hn]
  rw[if_neg hli,e4];rfl
 ·split
  ·unfold a4u
   rw[bad _ (by unfold a7b;decide) hl]
  ·have e4:a2K ⟨p.2.toArray⟩ l=(b2E,4):=by
    unfold a2K
    cases hn:nmd ⟨p.2.toArray⟩ with
    | none=>rfl
    | some s=>
     simp only;rw[bad _ (a9Y hn).1 hl]
   rw[e4];rfl
theorem c3q {t:Tok} {A:List Tok} (hc:cfm t A=false) (hk:t.kind≠46) (h:∃u∈A,u.kind=46):stR t A=([],4):=by
 have hp:plain t A true=(⟨0,0,0,0,0⟩,⟨#[]⟩,4):=by
  cases hf:(List.range 64).find? (named t) with
  | none=>exact a1b hf A true
  | some k=>exact a2S hf (a5a _ _ _ _ _ h (a60 _)) true
 rw[a5p hc,hp];show a7j t A=([],4);unfold a7j;rw[if_neg hk];unfold a3d
 split
 ·rfl
 ·rename_i F hF
  rw[a5a _ _ _ _ _ h (fun f hf=>(b18 hF f hf).2)]
  rfl
theorem b0f {c:UInt8} {r:List UInt8} {k v:Int} {m:Nat} (h:a2x c r=some (k,v,m)) (hk:k≠119) (hk2:k≠105):(c.toNat:Int)=k/\m=0:=by
 unfold a2x at h
 split at h
 ·injection h with h;injection h with h _;omega
 ·split at h
  ·split at h
   ·cases h
   ·split at h
    ·cases h
    ·injection h with h;injection h with h _;omega
  ·split at h
   ·split at h
    ·cases h
    ·split at h
     ·cases h
     ·injection h with h;injection h with h _;omega
   ·split at h
    ·injection h with h
     (injection h with h1 h);(injection h with _ h);exact ⟨h1,h.symm⟩
    ·cases h
theorem c1L {c:UInt8} {r:List UInt8} (h35:(35:UInt8)∉(c::r:List UInt8)) (hbl:¬(c=32\/c=9)) (hc46:c≠46) (hcc:¬(c=99/\∃q,r=46::q)) (h46:(46:UInt8)∈r) (b:Bool) (nm:List UInt8):
    PS nm (a1d (c::r) 0 [])=RS nm (a00 (c::r) b):=by
 have hc35:c≠35:=fun e=>h35 (by simp[e])
 have hr35:(35:UInt8)∉r:=fun e=>h35 (by simp[e])
 have e1:PS nm (a1d (c::r) 0 [])=E4:=by
  cases hq:a1d (c::r) 0 [] with
  | none=>rfl
  | some ps=>
   (have hdot:=a48 (c::r) 0 [] ps hq (Or.inl (by simp[h46])));rw[a08]at hq
   cases hb:beg c.toNat with
   | none=>rw[hb]at hq;cases hq
   | some k'=>
    rw[hb,Option.bind_some,a3n]at hq
    have hk0:k'≠0:=by
     rintro rfl;unfold beg at hb
     split at hb
     ·injection hb with hb;omega
     ·split at hb
      ·injection hb with hb;omega
      ·split at hb
       ·injection hb with hb;omega
       ·split at hb
        ·rename_i hx
         apply hbl;simp only[Bool.or_eq_true,beq_iff_eq]at hx;rcases hx with hx|hx
         ·exact Or.inl (a3W (n:=32) hx)
         ·exact Or.inr (a3W (n:=9) hx)
        ·cases hb
    cases he:a36 k' ([c]++r.takeWhile fun c=>goes k' c.toNat) with
    | none=>rw[he]at hq;cases hq
    | some es=>
     have hes:es=[(k',c::r.takeWhile fun c=>goes k' c.toNat)]:=by
      unfold a36 at he;rw[if_neg hk0]at he
      split at he
      ·injection he with he
       exact he.symm
      ·cases he
     rw[he,hes,Option.bind_some]at hq
     cases hz:a1d (r.dropWhile fun c=>goes k' c.toNat) 0 [] with
     | none=>rw[hz]at hq;cases hq
     | some l=>
      rw[hz]at hq;(injection hq with hq);subst hq;(show a1O nm ((k',c::r.takeWhile fun c=>goes k' c.toNat)::l)=E4);simp only[a1O]
      have hR:rst ⟨(c::r.takeWhile fun c=>goes k' c.toNat).toArray⟩ l=([],4):=by
       refine c4Q (p:=(k',c::r.takeWhile fun c=>goes k' c.toNat)) ?_ ?_ hdot
       ·cases hp:Lib.hasPrefix (c::r.takeWhile fun c=>goes k' c.toNat) [99,46] with
        | false=>rfl
        | true=>
         exfalso;unfold Lib.hasPrefix at hp;obtain ⟨x,hx⟩:=List.isPrefixOf_iff_prefix.1 hp;(injection hx with hx1 hx2);apply hcc;refine ⟨hx1.symm,?_⟩
         match r,hx2 with
         | [],hx2=>cases hx2
         | d::r',hx2=>
          simp only[List.takeWhile_cons]at hx2
          split at hx2
          ·injection hx2 with hx2 _
           exact ⟨r',by rw[<-hx2]⟩
          ·cases hx2
       ·unfold dsz
        rw[if_neg (fun e=>by injection e with e;exact hc46 e),if_neg (fun e=>by injection e with e;exact hc46 e),if_neg (fun e=>by injection e with e;exact hc46 e)]
      rw[hR];rfl
 rw[e1];refine (b15 (fun T hT=>?_)).symm
 have hdot:=a3l _ (c::r) b T (Nat.le_refl _) (by simp[h46]) h35 hT
 cases ht:a2x c r with
 | none=>rw[a0v _ _ _ hc35 hbl ht]at hT;cases hT
 | some x=>
  obtain ⟨k,v,m⟩:=x;rw[a0X _ _ _ hc35 hbl _ _ _ ht]at hT
  cases hA:a00 (r.drop m) false with
  | none=>rw[hA]at hT;cases hT
  | some A=>
   rw[hA]at hT;(injection hT with hT);subst hT
   have hk46:k≠46:=by
    rintro rfl;exact hc46 (a3W (n:=46) (b0f ht (by decide) (by decide)).1)
   show stR _ A=_;refine c3q ?_ hk46 ?_
   ·cases hcf:cfm ⟨k,c::r.take m,v,b⟩ A with
    | false=>rfl
    | true=>
     exfalso
     match A,hA,hcf with
     | d::u::A',hA,hcf=>
      simp only[cfm,Bool.and_eq_true,decide_eq_true_eq,Bool.not_eq_true',List.cons.injEq]at hcf;obtain ⟨⟨⟨⟨hc99,htk⟩,hdk⟩,hdb⟩,_⟩:=hcf;(obtain ⟨d',r',k',v',m',e,ht',hd',_⟩:=b4Y (fun hx=>hr35 (List.mem_of_mem_drop hx)) hA hdb);(have hk':k'=46:=by rw[hd']at hdk;exact hdk);subst hk';(have hd46:=a3W (n:=46) (b0f ht' (by decide) (by decide)).1);subst hd46;apply hcc;refine ⟨hc99,r',?_⟩
      have hm0:r.drop m=r:=by
       match r,m,htk with
       | [],_,_=>simp
       | x::r'',0,_=>rfl
      rw[hm0]at e;exact e
   ·obtain ⟨u,hu,huk⟩:=hdot
    rcases List.mem_cons.1 hu with rfl|hu
    ·exact absurd huk hk46
    ·exact ⟨u,hu,huk⟩
theorem b8j:∀(n:Nat) (S:List UInt8) (b:Bool) (nm:List UInt8),S.length<=n->(35:UInt8)∉S->PS nm (a1d S 0 [])=RS nm (a00 S b)
 | n,[],b,nm,_,_=>by
  rw[a3o];rfl
 | 0,c::r,_,_,h,_=>by simp at h
 | n+1,c::r,b,nm,hl,h35=>by
  have hr:r.length<=n:=by simpa using hl
  have n35:(35:UInt8)∉r:=fun e=>h35 (by simp[e])
  by_cases hbl:c=32\/c=9
  ·rw[a1q _ _ _ hbl]
   (have hb:beg c.toNat=some 0:=by rcases hbl with rfl|rfl<;>decide);rw[a08,hb,Option.bind_some,a54];exact b8j n r true nm hr n35
  ·by_cases h46:(46:UInt8)∈(c::r:List UInt8)
   ·by_cases hc46:c=46
    ·subst hc46
     exact c0P r n35 b nm
    ·have h46r:(46:UInt8)∈r:=by
      rcases List.mem_cons.1 h46 with e|e
      ·exact absurd e.symm hc46
      ·exact e
     by_cases hcc:c=99/\∃q,r=46::q
     ·obtain ⟨rfl,q,rfl⟩:=hcc
      exact c3X q (fun e=>n35 (by simp[e])) b nm
     ·exact c1L h35 hbl hc46 hcc h46r b nm
   ·rcases a5j (c::r).length (c::r) b (Nat.le_refl _) h46 h35 with ⟨A,q1,q2,hA⟩|⟨q1,q2|⟨ps,q2,ha⟩⟩
    ·rw[q1,q2]
     exact b6j nm hA
    ·rw[q1,q2]
     rfl
    ·rw[q1,q2]
     match ps,q2,ha with
     | [],_,ha=>obtain ⟨j,a,b,h1,_⟩:=ha;simp at h1
     | p::l,q2,ha=>
      show a1O nm (p::l)=E4;simp only[a1O];rw[c4n (a5x _ 0 [] _ q2 (Or.inl rfl)) ha];rfl
def Blk (c:UInt8):Prop:=c=32\/c=9
theorem a6C:∀(n:Nat) (L:List UInt8) (b:Bool) (t:Tok) (T:List Tok),L.length<=n->(35:UInt8)∉L->a00 L b=some (t::T)->
    ∃bl d r k v m,L=bl++d::r/\(∀c∈bl,Blk c)/\a2x d r=some (k,v,m)/\t.kind=k/\t.text=d::r.take m/\a00 (r.drop m) false=some T
 | n,[],b,t,T,_,_,h=>by rw[a3o]at h;cases h
 | 0,c::r,_,_,_,h,_,_=>by simp at h
 | n+1,c::r,b,t,T,hl,h35,h=>by
  have hc35:c≠35:=fun e=>h35 (by simp[e])
  have n35:(35:UInt8)∉r:=fun e=>h35 (by simp[e])
  by_cases hbl:c=32\/c=9
  ·rw[a1q _ _ _ hbl]at h
   (obtain ⟨bl,d,r',k,v,m,e,hb,ht,h1,h2,h3⟩:=a6C n r true t T (by simpa using hl) n35 h);(refine ⟨c::bl,d,r',k,v,m,by rw[e];rfl,fun x hx=>?_,ht,h1,h2,h3⟩);rcases List.mem_cons.1 hx with rfl|hx
   ·exact hbl
   ·exact hb x hx
  ·cases ht:a2x c r with
   | none=>rw[a0v _ _ _ hc35 hbl ht]at h;cases h
   | some x=>
    obtain ⟨k,v,m⟩:=x;rw[a0X _ _ _ hc35 hbl _ _ _ ht]at h
    cases hT:a00 (r.drop m) false with
    | none=>rw[hT]at h;cases h
    | some T'=>
     rw[hT]at h;(injection h with h);(injection h with h1 h2);subst h2;exact ⟨[],c,r,k,v,m,rfl,fun x hx=>(by cases hx),ht,by rw[<-h1],by rw[<-h1],hT⟩
theorem b2W:∀(n:Nat) (L:List UInt8) (p:Pc) (ps:List Pc),L.length<=n->a1d L 0 []=some (p::ps)->
    ∃bl d r k,L=bl++d::r/\(∀c∈bl,Blk c)/\¬Blk d/\beg d.toNat=some k/\p=(k,d::r.takeWhile fun c=>goes k c.toNat)/\a1d (r.dropWhile fun c=>goes k c.toNat) 0 []=some ps
 | n,[],p,ps,_,h=>by cases h
 | 0,c::r,_,_,h,_=>by simp at h
 | n+1,c::r,p,ps,hl,h=>by
  rw[a08]at h
  cases hb:beg c.toNat with
  | none=>rw[hb]at h;cases h
  | some k'=>
   rw[hb,Option.bind_some]at h;by_cases hbl:c=32\/c=9
   ·have hb0:beg c.toNat=some 0:=by rcases hbl with rfl|rfl<;>decide
    rw[hb0]at hb;(injection hb with hb);subst hb;rw[a54]at h;(obtain ⟨bl,d,r',k,e,h1,h2,h3,h4,h5⟩:=b2W n r p ps (by simpa using hl) h);(refine ⟨c::bl,d,r',k,by rw[e];rfl,fun x hx=>?_,h2,h3,h4,h5⟩);rcases List.mem_cons.1 hx with rfl|hx
    ·exact hbl
    ·exact h1 x hx
   ·have hk0:k'≠0:=by
     rintro rfl;unfold beg at hb
     split at hb
     ·injection hb with hb;omega
     ·split at hb
      ·injection hb with hb;omega
      ·split at hb
       ·injection hb with hb;omega
       ·split at hb
        ·rename_i hx
         apply hbl;simp only[Bool.or_eq_true,beq_iff_eq]at hx;rcases hx with hx|hx
         ·exact Or.inl (a3W (n:=32) hx)
         ·exact Or.inr (a3W (n:=9) hx)
        ·cases hb
    rw[a3n]at h
    cases he:a36 k' ([c]++r.takeWhile fun c=>goes k' c.toNat) with
    | none=>rw[he]at h;cases h
    | some es=>
     have hes:es=[(k',c::r.takeWhile fun c=>goes k' c.toNat)]:=by
      unfold a36 at he;rw[if_neg hk0]at he
      split at he
      ·injection he with he
       exact he.symm
      ·cases he
     rw[he,hes,Option.bind_some]at h
     cases hz:a1d (r.dropWhile fun c=>goes k' c.toNat) 0 [] with
     | none=>rw[hz]at h;cases h
     | some l=>
      rw[hz]at h;(injection h with h);(injection h with h1 h2);exact ⟨[],c,r,k',rfl,fun x hx=>(by cases hx),hbl,hb,h1.symm,by rw[hz,<-h2];rfl⟩
theorem c1k {t:List UInt8} (h:(46:UInt8)∈t):a4x 1 t=false:=by
 have:=Lib.contains_iff_indexByte t 46;have hc:t.contains 46=true:=by simpa using h
 rw[hc]at this;simp[a4x,<-this]
def Lab (L W S:List UInt8):Prop:=∃b1 b2,L=b1++(W++(b2++58::S))/\(∀c∈b1,Blk c)/\(∀c∈b2,Blk c)/\(∀c∈W,a0s c=true)/\∃c q,W=c::q/\a0o c.toNat=true
theorem a8r:∀(bl L:List UInt8) (b:Bool),(∀c∈bl,Blk c)->∃b',a00 (bl++L) b=a00 L b'
 | [],L,b,_=>⟨b,rfl⟩
 | c::bl,L,b,h=>by
  obtain ⟨b',e⟩:=a8r bl L true (fun x hx=>h x (by simp[hx]))
  exact ⟨b',by rw[List.cons_append,a1q _ _ _ (h c (by simp)),e]⟩
theorem b0P:∀(bl L:List UInt8),(∀c∈bl,Blk c)->a1d (bl++L) 0 []=a1d L 0 []
 | [],L,_=>rfl
 | c::bl,L,h=>by
  have hb:beg c.toNat=some 0:=by rcases h c (by simp) with rfl|rfl<;>decide
  rw[List.cons_append,a08,hb,Option.bind_some,a54];exact b0P bl L (fun x hx=>h x (by simp[hx]))
theorem c5L {c:UInt8} (h:Blk c):goes 1 c.toNat=false/\a0s c=false:=by
 rcases h with rfl|rfl<;>decide
theorem b3T {b2 S:List UInt8} (h:∀c∈b2,Blk c):∃c q,b2++58::S=c::q/\goes 1 c.toNat=false/\a0s c=false:=by
 match b2,h with
 | [],_=>exact ⟨58,S,rfl,by decide,by decide⟩
 | c::b2,h=>exact ⟨c,_,rfl,c5L (h c (by simp))⟩
theorem c0f {L W S:List UInt8} (h:Lab L W S) (b:Bool):∃b1 b2,a00 L b=(a00 S false).map fun T=>⟨119,W,0,b1⟩::⟨58,[58],0,b2⟩::T:=by
 obtain ⟨bl,b2,rfl,h1,h2,hW,hs⟩:=h;obtain ⟨x,e⟩:=a8r bl (W++(b2++58::S)) b h1;obtain ⟨y,e2⟩:=a8r b2 (58::S) false h2;obtain ⟨c,q,hc,_,ha⟩:=b3T (S:=S) h2;refine ⟨x,y,?_⟩;rw[e,a9O hW hs (Or.inr ⟨c,q,hc,ha⟩) x,e2,a0X 58 S y (by decide) (by decide) 58 0 0 (a1S 58 S (by simp))]
 simp only[List.drop_zero,List.take_zero];cases a00 S false<;>rfl
theorem c3B {L W S:List UInt8} (h:Lab L W S):a1d L 0 []=(a1d S 0 []).map fun T=>(1,W)::(3,[58])::T:=by
 obtain ⟨bl,b2,rfl,h1,h2,hW,c,q,rfl,hc⟩:=h;obtain ⟨d,z,hd,hg,_⟩:=b3T (S:=S) h2;have hq:∀x∈q,goes 1 x.toNat=true:=fun x hx=>b02 (hW x (by simp[hx]))
 have e1:(q++(b2++58::S)).takeWhile (fun c=>goes 1 c.toNat)=q:=by
  rw[List.takeWhile_append_of_pos hq,hd];simp[List.takeWhile_cons,hg]
 have e2:(q++(b2++58::S)).dropWhile (fun c=>goes 1 c.toNat)=b2++58::S:=by
  rw[List.dropWhile_append_of_pos hq,hd];simp[List.dropWhile_cons,hg]
 have hb:beg c.toNat=some 1:=by simp[beg,hc]
 rw[b0P bl _ h1,List.cons_append,b0O hb,e1,e2,b0P b2 _ h2,a08,show beg ((58:UInt8).toNat:Int)=some 3 by decide,Option.bind_some,a3n,(a7R S).1,(a7R S).2]
 have he:a36 3 ([58]++[])=some [(3,[58])]:=by decide
 rw[he,Option.bind_some];cases a1d S 0 []<;>rfl
theorem b2L {L:List UInt8} {b:Bool} {t c:Tok} {l:List Tok} (h35:(35:UInt8)∉L) (h:a00 L b=some (t::c::l)) (h1:t.kind=119) (h2:c.kind=58):∃S,Lab L t.text S:=by
 obtain ⟨bl,d,r,k,v,m,rfl,hb,ht,e1,e2,h3⟩:=a6C _ L b t (c::l) (Nat.le_refl _) h35 h;have hk:k=119:=by rw[<-e1,h1]
 subst hk;obtain ⟨hs,hm,_⟩:=b4e ht;have hr35:(35:UInt8)∉r.drop m:=fun e=>h35 (by have:=List.mem_of_mem_drop e;simp[this])
 obtain ⟨b2,d2,r2,k2,v2,m2,e3,hb2,ht2,e4,_,_⟩:=a6C _ (r.drop m) false c l (Nat.le_refl _) hr35 h3;have hk2:k2=58:=by rw[<-e4,h2]
 subst hk2;have hd2:=a3W (n:=58) (b0f ht2 (by decide) (by decide)).1
 subst hd2
 have e5:r=r.takeWhile a0s++(b2++58::r2):=by
  have:r=r.takeWhile a0s++r.dropWhile a0s:=(List.takeWhile_append_dropWhile).symm;rw[<-a7U,<-hm,e3]at this;exact this
 refine ⟨r2,bl,b2,?_,hb,hb2,?_,?_⟩
 ·rw[e2,hm,a2F]
  conv=>lhs;rw[e5]
  rfl
 ·rw[e2,hm,a2F]
  intro x hx;rcases List.mem_cons.1 hx with rfl|hx
  ·simp[a0s,hs]
  ·exact a40 a0s r x hx
 ·rw[e2,hm,a2F]
  exact ⟨d,_,rfl,hs⟩
theorem b5M {L:List UInt8} {p q:Pc} {l:List Pc} (h:a1d L 0 []=some (p::q::l)) (h1:a4x p.1 p.2=true) (h2:q.2=[58]):∃S,Lab L p.2 S:=by
 obtain ⟨bl,d,r,k,rfl,hb,hnb,hbeg,rfl,h3⟩:=b2W _ L p (q::l) (Nat.le_refl _) h;simp only at h1
 have hk1:k=1:=by
  unfold a4x at h1;simp only[Bool.and_eq_true,beq_iff_eq]at h1;exact h1.1.1
 subst hk1
 have hnd:(46:UInt8)∉(d::r.takeWhile fun c=>goes 1 c.toNat:List UInt8):=fun hm=>by
  rw[c1k hm]at h1;cases h1
 have hs:a0o d.toNat=true:=by
  unfold beg at hbeg
  split at hbeg
  ·rename_i hx
   simp only[Bool.or_eq_true,beq_iff_eq]at hx;rcases hx with hx|hx
   ·exact hx
   ·exact absurd (by rw[a3W (n:=46) hx];simp) hnd
  ·split at hbeg
   ·injection hbeg with hbeg;omega
   ·split at hbeg
    ·injection hbeg with hbeg;omega
    ·split at hbeg
     ·injection hbeg with hbeg;omega
     ·cases hbeg
 obtain ⟨e1,e2⟩:=b5L r (fun e=>hnd (by simp[e]))
 obtain ⟨b2,d2,r2,k2,e3,hb2,_,_,hq,_⟩:=b2W _ _ q l (Nat.le_refl _) h3
 have hd2:d2=58:=by
  rw[hq]at h2;injection h2
 subst hd2;refine ⟨r2,bl,b2,?_,hb,hb2,?_,d,_,rfl,hs⟩
 ·have:r=r.takeWhile (fun c=>goes 1 c.toNat)++r.dropWhile (fun c=>goes 1 c.toNat):=(List.takeWhile_append_dropWhile).symm
  rw[e3]at this
  conv=>lhs;rw[this]
  rfl
 ·rw[<-e1]
  intro x hx;rcases List.mem_cons.1 hx with rfl|hx
  ·simp[a0s,hs]
  ·exact a40 a0s r x hx
theorem b5p (r:UInt8) (hr:a7b r) (i:Ins) (tg:List UInt8):a1i r 3 [58] i tg=none:=by
 rcases hr with rfl|rfl|rfl|rfl|rfl|rfl|rfl|rfl<;>rfl
theorem b9T {nm:ByteArray} {l:List Pc} {q:Pc} (hq:q∈l) (h1:q.1=3) (h2:q.2=[58]):rst nm l=([],4):=by
 have bad:∀F:List UInt8,(∀x∈F,a7b x)->∀i tg,a0i F l i tg=none:=fun F hF i tg=>a3E _ _ _ _ ⟨q,hq,fun x hx i tg=>by rw[h1,h2];exact b5p x (hF x hx) i tg⟩
 unfold rst
 split
 ·exact a7H (a1V (fun k hk=>bad _ (a49 (a02 k hk)) _ _))
 ·split
  ·exact a7Z (bad _ (by unfold a7b;decide) _ _)
  ·split
   ·unfold a4u
    rw[bad _ (by unfold a7b;decide)]
   ·have e4:a2K nm l=(b2E,4):=by
     unfold a2K
     cases hn:nmd nm with
     | none=>rfl
     | some s=>
      simp only;rw[bad _ (a9Y hn).1]
    rw[e4];rfl
theorem c4o (T:List Tok):c4T ([],(stL T).1,(stL T).2)=stO [] (stL T):=by
 unfold stO;by_cases h0:(stL T).2=0
 ·rw[if_pos h0];unfold c4T;rw[h0]
 ·rw[if_neg h0]
  have:(stL T).1=[]:=by
   cases T with
   | nil=>rfl
   | cons t T=>exact c3y t T h0
  unfold c4T;rw[this];rfl
theorem c01 (L:List UInt8) (b:Bool) (h35:(35:UInt8)∉L):
    (match a1d L 0 [] with|none=>([],[],4)|some l=>a2b l)=c4T (match a00 L b with|none=>([],[],4)|some T=>lnT T):=by
 by_cases hl:∃W S,Lab L W S
 ·obtain ⟨W,S,hL⟩:=hl
  obtain ⟨b1,b2,e2⟩:=c0f hL b;rw[c3B hL,e2]
  have hS35:(35:UInt8)∉S:=by
   obtain ⟨x,y,rfl,_⟩:=hL;exact fun e=>h35 (by simp[e])
  obtain ⟨_,_,_,_,_,hW,hs⟩:=hL;have hst:=b8j S.length S false W (Nat.le_refl _) hS35;have hsz:(⟨119,W,0,b1⟩:Tok).S.size=W.length:=by show W.toArray.size=_;simp
  have hn:a4x 1 W=decide ((119:Int)=119/\(⟨119,W,0,b1⟩:Tok).S.size<=8):=b8h (t:=⟨119,W,0,b1⟩) (Or.inl ⟨rfl,hW,hs⟩);rw[hsz]at hn;have eL:∀T,lnT (⟨119,W,0,b1⟩::⟨58,[58],0,b2⟩::T)=if 8<W.length then ([],[],4) else if (stL T).2=0 then (W,(stL T).1,0) else ([],[],(stL T).2):=fun T=>rfl
  by_cases h8:8<W.length
  ·have hn':a4x 1 W=false:=by rw[hn];exact decide_eq_false (fun h=>by omega)
   have l1:∀o:Option (List Pc),(match o.map fun T=>((1,W):Pc)::(3,[58])::T with|none=>(([],[],4):List UInt8×List Prt×Int)|some l=>a2b l)=([],[],4):=fun o=>by
    cases o with
    | none=>rfl
    | some l=>
     simp only[Option.map_some,a2b];rw[hn'];rfl
   refine (l1 _).trans ?_
   cases a00 S false with
   | none=>rfl
   | some T=>
    simp only[Option.map_some];rw[eL,if_pos h8];rfl
  ·have hn':a4x 1 W=true:=by rw[hn];exact decide_eq_true ⟨rfl,by omega⟩
   have l1:∀o:Option (List Pc),(match o.map fun T=>((1,W):Pc)::(3,[58])::T with|none=>(([],[],4):List UInt8×List Prt×Int)|some l=>a2b l)=PS W o:=fun o=>by
    cases o with
    | none=>rfl
    | some l=>
     simp only[Option.map_some,a2b];rw[hn'];rfl
   refine (l1 _).trans ?_;rw[hst]
   cases a00 S false with
   | none=>rfl
   | some T=>
    simp only[Option.map_some];rw[eL,if_neg h8];show stO W (stL T)=_;unfold stO
    split<;>rfl
 ·have hR:c4T (match a00 L b with|none=>([],[],4)|some T=>lnT T)=RS [] (a00 L b):=by
   cases hT:a00 L b with
   | none=>rfl
   | some T=>
    simp only
    have e:b9W T=(none,T):=by
     match T,hT with
     | [],_=>rfl
     | [t],_=>rfl
     | t::c::l,hT=>
      simp only[b9W];rw[if_neg (fun q=>hl (by obtain ⟨S,hS⟩:=b2L h35 hT q.1 q.2;exact ⟨_,S,hS⟩))]
    unfold lnT;rw[e];exact c4o T
  rw[hR,<-b8j L.length L b [] (Nat.le_refl _) h35]
  cases hq:a1d L 0 [] with
  | none=>rfl
  | some ps=>
   show a2b ps=a1O [] ps
   match ps,hq with
   | [],_=>rfl
   | [p],_=>rfl
   | p::q::l,hq=>
    simp only[a2b];by_cases h58:q.2=[58]
    ·rw[if_pos h58]
     have hn:a4x p.1 p.2=false:=by
      cases hn:a4x p.1 p.2 with
      | false=>rfl
      | true=>exact absurd (by obtain ⟨S,hS⟩:=b5M hq hn h58;exact ⟨_,S,hS⟩) hl
     have hq3:q.1=3:=by
      (obtain ⟨c,r,e1,e2⟩:=a5x L 0 [] _ hq (Or.inl rfl) q (by simp));rw[h58]at e1;(injection e1 with e1 _);subst e1;(have:beg ((58:UInt8).toNat:Int)=some 3:=by decide);rw[this]at e2;(injection e2 with e2);exact e2.symm
     rw[hn];simp only[a1O];(rw[b9T (q:=q) (by simp) hq3 h58]);rfl
    ·rw[if_neg h58]
theorem c1Q (L:List UInt8):a0F L=c4T (lnL L):=by
 obtain ⟨rest,e,hr,h35⟩:=b34 L
 have e2:a00 L false=a00 (Lib.cut L [35]).1 false:=by
  conv=>lhs;rw[e]
  exact a7q hr _ _ false (Nat.le_refl _)
 unfold a0F lnL;rw[e2];exact c01 _ false h35
