import Derived.Test.YtbmcofdodfcnnaaGreatDoorGW39
import Derived.Test.YtbmcofdodfcnnaaGreatDoorGBG
set_option linter.all false
set_option maxHeartbeats 400000000
set_option maxRecDepth 100000
namespace Pn
open Go
def a8c (ps:List Pz) (nm:List (ByteArray×Nat)) (p:Pz):Bool:=!p.1.tg.isEmpty&&decide (fdR (szL ps) nm ⟨p.1.tg.toArray⟩<0)
def sz0 (short:Bool) (p:Rp):Int:=if p.bt≠[] then p.bt.length else if p.sh||(short&&(!p.tg.isEmpty||(a0S p.ins).2==0)) then 2 else 4
def a5v (ps:List Pz) (nm:List (ByteArray×Nat)) (k:Nat) (p:Pz):Bool:=!p.1.tg.isEmpty&&(p.2.2 != 4&&(a0S (a4s ps nm p.1 k)).2 != 0)
def a1h (ps:List Pz) (nm:List (ByteArray×Nat)) (m:Nat):List Nat:=(List.range m).filter fun k=>match ps[k]? with|some p=>a5v ps nm k p|none=>false
def a6B (ps:List Pz) (k:Nat):List Pz:=match ps[k]? with|some p=>ps.set k (p.1,p.2.1,4)|none=>ps
def a1N (ps:List Pz) (l:List Nat):List Pz:=l.foldl a6B ps
def grV (i:Nat):Value:=.int .i64 (i:Int)
def a12 (nm:List (ByteArray×Nat)):Nat->List Pz->List Pz
 | 0,ps=>ps
 | f+1,ps=>if a1h ps nm ps.length=[] then ps else a12 nm f (a1N ps (a1h ps nm ps.length))
def b52 (ps:List Pz) (nm:List (ByteArray×Nat)):Nat->List Pz->List UInt8->List UInt8×Int×Int
 | _,[],acc=>(acc,0,0)
 | k,p::rest,acc=>if p.1.bt≠[] then b52 ps nm (k+1) rest (acc++p.1.bt)
  else if (a4s ps nm p.1 k).imm%2≠0/\p.1.tg≠[] then ([],5,p.2.1)
  else b52 ps nm (k+1) rest (acc++a2I p.2.2.toNat (if p.2.2=2 then (a0S (a4s ps nm p.1 k)).1 else (enc (a4s ps nm p.1 k)).1))
def c44 (nm:List (ByteArray×Nat)) (f:Nat) (ps:List Pz):List UInt8×Int×Int:=
 if 1024<plR (szL (a12 nm f ps)) (a12 nm f ps).length then ([],8,0) else b52 (a12 nm f ps) nm 0 (a12 nm f ps) []
def c47 (short:Bool) (ps:List (Rp×Int)) (nm:List (ByteArray×Nat)):List UInt8×Int×Int:=
 match (ps.map fun p=>((p.1,p.2,0):Pz)).find? (a8c (ps.map fun p=>(p.1,p.2,0)) nm) with
 | some p=>([],7,p.2.1)
 | none=>c44 nm (ps.length+1) (ps.map fun p=>(p.1,p.2,sz0 short p.1))
def b6u (short:Bool) (s:List UInt8):List UInt8×Int×Int:=
 if 2000<s.length then ([],3,0)
 else match a5r (lnR [] s) 0 [] [] with
 | ((ps,nm),c,ln)=>if c=0 then c47 short ps nm else ([],c,ln)
def szA (short:Bool) (P:List Pz):List Pz:=P.map fun p=>(p.1,p.2.1,sz0 short p.1)
theorem c5u {P:List Pz} (short:Bool) {j:Nat} (hj:j<P.length):(szA short (P.take j)++P.drop j)[j]?=some P[j]:=by
 have e:(szA short (P.take j)).length=j:=by simp[szA];omega
 rw[List.getElem?_append_right (by omega),e,Nat.sub_self,List.getElem?_drop,Nat.add_zero,List.getElem?_eq_getElem hj]
theorem c1i {P:List Pz} (short:Bool) {j:Nat} (hj:j<P.length):(szA short (P.take j)++P.drop j).set j (P[j].1,P[j].2.1,sz0 short P[j].1)=szA short (P.take (j+1))++P.drop (j+1):=by
 have e:(szA short (P.take j)).length=j:=by simp[szA];omega
 rw[List.set_append_right _ _ (by omega),e,Nat.sub_self,List.drop_eq_getElem_cons hj,List.set_cons_zero,List.take_add_one,List.getElem?_eq_getElem hj]
 unfold szA;rw[List.map_append];simp only[Option.toList_some,List.map_cons,List.map_nil,List.append_assoc,List.singleton_append]
theorem c2Q (short:Bool) {p:Rp} (h:p.bt.length<=4):0<=sz0 short p/\sz0 short p<=4:=by
 unfold sz0
 split
 ·omega
 ·split<;>omega
def szI (P:List Pz) (i:Nat):Int:=(P[i]?.map fun p=>p.2.2).getD 0
def c4 (P:List Pz):Nat:=(List.range P.length).countP fun i=>szI P i != 4
theorem c4R (P:List Pz):c4 P<=P.length:=by
 have:=List.countP_le_length (p:=fun i=>szI P i != 4) (l:=List.range P.length)
 rw[List.length_range]at this;exact this
theorem b1b {p q:Nat->Bool}:∀(l:List Nat),(∀i∈l,p i=true->q i=true)->l.countP p<=l.countP q/\((∃i∈l,q i=true/\p i=false)->l.countP p<l.countP q)
 | [],_=>⟨by simp,fun ⟨_,h,_⟩=>by cases h⟩
 | a::l,h=>by
  obtain ⟨h1,h2⟩:=b1b l (fun i hi=>h i (by simp[hi]))
  have ha:=h a (by simp)
  rw[List.countP_cons,List.countP_cons];refine ⟨?_,fun ⟨i,hi,hq,hp⟩=>?_⟩
  ·cases hpa:p a
   ·cases q a<;>simp<;>omega
   ·rw[ha hpa];simp;omega
  ·rcases List.mem_cons.1 hi with rfl|hi
   ·rw[hq,hp];simp;omega
   ·have:=h2 ⟨i,hi,hq,hp⟩
    cases hpa:p a
    ·cases q a<;>simp<;>omega
    ·rw[ha hpa];simp;omega
theorem a5O (P:List Pz) (k:Nat):(a6B P k).length=P.length:=by
 unfold a6B
 split<;>simp
theorem b4d (P:List Pz) (k i:Nat):szI (a6B P k) i=if i=k/\k<P.length then 4 else szI P i:=by
 unfold a6B szI;by_cases hk:k<P.length
 ·rw[List.getElem?_eq_getElem hk]
  simp only;by_cases e:i=k
  ·subst e
   rw[List.getElem?_set_self hk,if_pos ⟨rfl,hk⟩];rfl
  ·rw[List.getElem?_set_ne (fun h=>e h.symm),if_neg (fun h=>e h.1)]
 ·have hn:P[k]?=none:=List.getElem?_eq_none (by omega)
  rw[hn,if_neg (fun h=>hk h.2)]
theorem b7V (P:List Pz) (k:Nat):c4 (a6B P k)<=c4 P/\(k<P.length->szI P k≠4->c4 (a6B P k)<c4 P):=by
 unfold c4;rw[a5O]
 have h:=b1b (p:=fun i=>szI (a6B P k) i != 4) (q:=fun i=>szI P i != 4) (List.range P.length) (fun i _ hp=>by
  rw[b4d]at hp
  split at hp
  ·simp at hp
  ·exact hp)
 refine ⟨h.1,fun hk hs=>h.2 ⟨k,by simpa using hk,by simpa using hs,?_⟩⟩
 rw[b4d,if_pos ⟨rfl,hk⟩];rfl
theorem b5m:∀(l:List Nat) (P:List Pz),c4 (a1N P l)<=c4 P
 | [],P=>by simp[a1N]
 | k::l,P=>by
  show c4 (a1N (a6B P k) l)<=c4 P;have:=b5m l (a6B P k);have:=(b7V P k).1;omega
theorem a4M:∀(l:List Nat) (P:List Pz),(a1N P l).length=P.length
 | [],P=>rfl
 | k::l,P=>by
  show (a1N (a6B P k) l).length=_;rw[a4M l,a5O]
theorem b05 (P:List Pz) (nm:List (ByteArray×Nat)) (m:Nat):(a1h P nm m).length<=m:=by
 unfold a1h;have:=List.length_filter_le (fun k=>match P[k]? with|some p=>a5v P nm k p|none=>false) (List.range m)
 rw[List.length_range]at this;exact this
theorem b1O {P:List Pz} {nm:List (ByteArray×Nat)} {m k:Nat} (h:k∈a1h P nm m):k<m/\∃p,P[k]?=some p/\a5v P nm k p=true:=by
 unfold a1h at h;rw[List.mem_filter]at h;refine ⟨by simpa using h.1,?_⟩
 have h2:=h.2
 split at h2
 ·rename_i p hp
  exact ⟨p,hp,h2⟩
 ·cases h2
theorem b3i {P:List Pz} {nm:List (ByteArray×Nat)} (h:a1h P nm P.length≠[]):c4 (a1N P (a1h P nm P.length))<c4 P:=by
 cases hg:a1h P nm P.length with
 | nil=>exact absurd hg h
 | cons k l=>
  obtain ⟨hk,p,hp,hgr⟩:=b1O (show k∈a1h P nm P.length by rw[hg];simp)
  show c4 (a1N (a6B P k) l)<c4 P;have h1:=b5m l (a6B P k)
  have h2:=(b7V P k).2 hk (by
   unfold szI;rw[hp];unfold a5v at hgr;simp only[Bool.and_eq_true,bne_iff_ne]at hgr;exact hgr.2.1)
  omega
theorem a8B {nm:List (ByteArray×Nat)} {f:Nat} {P:List Pz} (hf:0<f) (h:a1h P nm P.length=[]):a12 nm f P=P:=by
 match f,hf with
 | f+1,_=>rw[a12,if_pos h]
theorem a6M {nm:List (ByteArray×Nat)} {f:Nat} {P:List Pz} (hf:0<f) (h:a1h P nm P.length≠[]):a12 nm f P=a12 nm (f-1) (a1N P (a1h P nm P.length)):=by
 match f,hf with
 | f+1,_=>rw[a12,if_neg h];rfl
theorem b5H {P:List Pz} {nm:List (ByteArray×Nat)} {j:Nat} {p:Pz} (h:P[j]?=some p):a1h P nm (j+1)=a1h P nm j++(if a5v P nm j p then [j] else []):=by
 unfold a1h;rw[List.range_succ,List.filter_append];simp only[List.filter_cons,List.filter_nil,h]
theorem b73 (i:Ins):0<=(a0S i).1/\(a0S i).1<=65535:=by
 rw[a1p];unfold a0q
 split
 ·split
  ·rename_i k hk
   (have hk32:k<32:=by have:=List.mem_of_find?_eq_some hk;simpa using this);have:=b0m hk32 i;exact ⟨this.1,by omega⟩
  ·exact ⟨by decide,by decide⟩
 ·exact ⟨by decide,by decide⟩
theorem c5F (i:Ins):0<=(enc i).1/\(enc i).1<4294967296:=by
 by_cases h:right i=true
 ·exact (c3j h).2.2.2
 ·rw[b3q (by simpa using h)]
  exact ⟨by decide,by decide⟩
theorem a7y (n:Int):n.tmod 2=0↔n%2=0:=
 ⟨fun h=>Int.emod_eq_zero_of_dvd (Int.dvd_of_tmod_eq_zero h),fun h=>Int.tmod_eq_zero_of_dvd (Int.dvd_of_emod_eq_zero h)⟩
theorem b8a {P:List Pz} {k:Nat} {p:Pz} (h:p∈a6B P k):∃q∈P,q.1=p.1:=by
 unfold a6B at h
 split at h
 ·rename_i x hx
  rcases List.mem_or_eq_of_mem_set h with h|rfl
  ·exact ⟨p,h,rfl⟩
  ·exact ⟨x,List.mem_of_getElem? hx,rfl⟩
 ·exact ⟨p,h,rfl⟩
theorem a9H:∀(l:List Nat) {P:List Pz} {p:Pz},p∈a1N P l->∃q∈P,q.1=p.1
 | [],P,p,h=>⟨p,h,rfl⟩
 | k::l,P,p,h=>by
  obtain ⟨q,hq,e⟩:=a9H l (P:=a6B P k) h;obtain ⟨r,hr,e2⟩:=b8a hq;exact ⟨r,hr,e2.trans e⟩
theorem a9d (nm:List (ByteArray×Nat)):∀(f:Nat) {P:List Pz} {p:Pz},p∈a12 nm f P->∃q∈P,q.1=p.1
 | 0,P,p,h=>⟨p,h,rfl⟩
 | f+1,P,p,h=>by
  rw[a12]at h
  split at h
  ·exact ⟨p,h,rfl⟩
  ·obtain ⟨q,hq,e⟩:=a9d nm f h
   obtain ⟨r,hr,e2⟩:=a9H _ hq;exact ⟨r,hr,e2.trans e⟩
theorem b8s (T:List Tok):∀p∈(stL T).1,p.bt.length<=4:=by
 match T with
 | []=>intro p hp;cases hp
 | t::l=>
  intro p hp;simp only[stL]at hp;have one:∀{q:Rp},q.bt=[]->p∈[q]->p.bt.length<=4:=fun h1 h2=>by rw[List.mem_singleton.1 h2,h1];simp
  unfold stR at hp
  split at hp
  ·split at hp
   ·unfold cR at hp
    split at hp
    ·split at hp
     ·exact one rfl hp
     ·cases hp
    ·cases hp
   ·cases hp
  ·unfold stN at hp
   split at hp
   ·exact one rfl hp
   ·split at hp
    ·cases hp
    ·unfold a7j at hp
     split at hp
     ·unfold b1L at hp
      split at hp
      ·cases hp
      ·split at hp
       ·cases hp
       ·rename_i u l _ _
        unfold a6T at hp
        split at hp
        ·cases hp
        ·split at hp
         ·cases hp
         ·split at hp
          ·cases hp
          ·rw[List.mem_singleton.1 hp,a2d]
           unfold b6v
           split
           ·omega
           ·split
            ·omega
            ·split<;>omega
     ·unfold a3d at hp
      split at hp
      ·cases hp
      ·unfold b5v at hp
       split at hp
       ·cases hp
       ·split at hp
        ·split at hp
         ·unfold a6y at hp
          split at hp
          ·cases hp
          ·obtain ⟨x,hx,rfl⟩:=List.mem_map.1 hp
           unfold a4p at hx
           split at hx
           ·rw[List.mem_singleton.1 hx];simp[c5d]
           ·rcases List.mem_cons.1 hx with rfl|hx
            ·simp[c5d]
            ·split at hx
             ·cases hx
             ·rw[List.mem_singleton.1 hx];simp[c5d]
         ·split at hp
          ·exact one rfl hp
          ·cases hp
        ·cases hp
theorem b3u (L:List UInt8) (n:Nat) (nms:List (ByteArray×Nat)):(∀p∈(a1s L n nms).1.1,p.bt.length<=4)/\(a1s L n nms).1.1.length<=2/\((a1s L n nms).1.2=nms\/∃s,(a1s L n nms).1.2=nms++[(s,n)]):=by
 unfold a1s
 split
 ·exact ⟨fun p hp=>(by cases hp),by simp,Or.inl rfl⟩
 ·split
  ·split
   ·exact ⟨b8s _,b29 _,Or.inl rfl⟩
   ·exact ⟨fun p hp=>(by cases hp),by simp,Or.inl rfl⟩
  ·split
   ·exact ⟨fun p hp=>(by cases hp),by simp,Or.inl rfl⟩
   ·split
    ·split
     ·exact ⟨fun p hp=>(by cases hp),by simp,Or.inl rfl⟩
     ·exact ⟨b8s _,b29 _,Or.inr ⟨_,rfl⟩⟩
    ·exact ⟨fun p hp=>(by cases hp),by simp,Or.inl rfl⟩
theorem a6v:∀(A:List (List UInt8)) (n:Nat) (ps:List (Rp×Int)) (nms:List (ByteArray×Nat)),(∀p∈ps,p.1.bt.length<=4)->(∀x∈nms,x.2<=ps.length)->
    (∀p∈(a5r A n ps nms).1.1,p.1.bt.length<=4)/\(∀x∈(a5r A n ps nms).1.2,x.2<=(a5r A n ps nms).1.1.length)/\(a5r A n ps nms).1.1.length<=ps.length+2*A.length/\(a5r A n ps nms).1.2.length<=nms.length+A.length
 | [],n,ps,nms,h1,h2=>⟨h1,h2,by simp[a5r],by simp[a5r]⟩
 | L::A,n,ps,nms,h1,h2=>by
  obtain ⟨f1,f2,f3⟩:=b3u L ps.length nms;rw[a5r]
  split
  ·generalize a1s L ps.length nms=X at *
   obtain ⟨⟨q,nms'⟩,er⟩:=X;simp only at f1 f2 f3 ⊢
   have g1:∀p∈ps++q.map fun p=>(p,(n:Int)+1),p.1.bt.length<=4:=fun p hp=>by
    rcases List.mem_append.1 hp with hp|hp
    ·exact h1 p hp
    ·obtain ⟨x,hx,rfl⟩:=List.mem_map.1 hp
     exact f1 x hx
   have g2:∀x∈nms',x.2<=(ps++q.map fun p=>(p,(n:Int)+1)).length:=fun x hx=>by
    rw[List.length_append];rcases f3 with rfl|⟨s,rfl⟩
    ·have:=h2 x hx;omega
    ·rcases List.mem_append.1 hx with hx|hx
     ·have:=h2 x hx;omega
     ·rw[List.mem_singleton.1 hx];simp
   have ih:=a6v A (n+1) _ nms' g1 g2;refine ⟨ih.1,ih.2.1,?_,?_⟩
   ·have:=ih.2.2.1
    simp at this ⊢;omega
   ·have:=ih.2.2.2
    (have hl:nms'.length<=nms.length+1:=by rcases f3 with rfl|⟨s,rfl⟩<;>simp);simp at this ⊢;omega
  ·exact ⟨fun p hp=>(by cases hp),fun p hp=>(by cases hp),by simp,by simp⟩
end Pn
namespace Go.Proofs.YtbmcofdodfcnnaaGreatDoor
open Pn
open Go.Proofs.Tryz
open Go.RowKit
def a3t (w:World) (la na:Option Addr) (nm:List (ByteArray×Nat)) (P:List Pn.Pz) (wx:World):Prop:=
 c48 (w.heap.size+1) la P wx/\b5Y na nm wx/\b9n w.heap.size wx/\Below w.heap.size w wx/\w.heap.size<wx.heap.size
theorem a3t.below {w:World} {la na:Option Addr} {nm:List (ByteArray×Nat)} {P:List Pn.Pz} {wx wy:World} (h:a3t w la na nm P wx) (hB:Below wx.heap.size wx wy):a3t w la na nm P wy:=
 ⟨a7S h.1 hB,a6h h.2.1 hB,h.2.2.1.below hB h.2.2.2.2,h.2.2.2.1.trans (hB.mono (Nat.le_of_lt h.2.2.2.2)),by have:=h.2.2.2.2;have:=hB.size;omega⟩
theorem a3t.set {w:World} {la na:Option Addr} {nm:List (ByteArray×Nat)} {P:List Pn.Pz} {wx:World} {B k:Nat} {p:Pn.Pz} (h:a3t w la na nm P wx) (hap:∀B Bn:Nat,la=some ⟨B,0,none⟩->na=some ⟨Bn,0,none⟩->B≠Bn) (hla:la=some ⟨B,0,none⟩) (hk:P[k]?=some p) (n:Int):
    a3t w la na nm (P.set k (p.1,p.2.1,n)) (wx.setCell ⟨B,k*10+9,none⟩ (.int .i64 n)):=by
 obtain ⟨h1,h2,⟨h3,h4,h5⟩,h6,h7⟩:=h;have hb:=(h1.2 B hla).1;have hs:(wx.setCell ⟨B,k*10+9,none⟩ (.int .i64 n)).heap.size=wx.heap.size:=by simp[World.setCell]
 refine ⟨c6o h1 hla hk n,fun i x hx=>?_,⟨?_,?_,fun q=>?_⟩,h6.setCell (p:=⟨B,k*10+9,none⟩) (show w.heap.size<=B by omega) _,by rw[hs];exact h7⟩
 ·obtain ⟨Bn,e1,e2,e3,e4⟩:=h2 i x hx
  have hne:B≠Bn:=hap B Bn hla e1;exact ⟨Bn,e1,by rw[hs];exact e2,(World.cell?_setCell_other _ _ _ _ (by intro h';injection h' with h';exact hne h')).trans e3,(World.cell?_setCell_other _ _ _ _ (by intro h';injection h' with h';exact hne h')).trans e4⟩
 ·exact (World.cell?_setCell_other _ _ _ _ (by intro h';injection h' with h';omega)).trans h3
 ·exact (World.cell?_setCell_other _ _ _ _ (by intro h';injection h' with h';omega)).trans h4
 ·rw[World.frozen?_setCell];exact h5 q
def c8i (la:Option Addr) (i:Nat) (w:World):Int:=match la with
 | some a=>(match w.cell? ⟨a.block,i*10+9,none⟩ with|some (.int _ n)=>n|_=>0)
 | none=>0
def c4w (la:Option Addr) (N:Nat) (w:World):Nat:=(List.range N).countP fun i=>c8i la i w != 4
def bOf:Value->Nat
 | .bool true=>1
 | _=>0
theorem c2S {w wx:World} {la na:Option Addr} {nm:List (ByteArray×Nat)} {P:List Pn.Pz} {N:Nat} (h:a3t w la na nm P wx) (hN:P.length=N):c4w la N wx=Pn.c4 P:=by
 unfold c4w Pn.c4;rw[hN];refine List.countP_congr (fun i hi=>?_)
 have hi':i<P.length:=by rw[hN];simpa using hi
 obtain ⟨B,e,_,hc⟩:=h.1.1 i P[i] (by simp[hi'])
 have:c8i la i wx=Pn.szI P i:=by
  unfold c8i Pn.szI;rw[e];simp only;rw[hc 9 _ rfl];simp[hi']
 rw[this]
theorem c0r {P:List Pn.Pz} {nm:List (ByteArray×Nat)} (h:Lay P nm) (k:Nat):Lay (a6B P k) nm:=
 ⟨by rw[a5O];exact h.len,h.nlen,fun p hp=>by
  unfold a6B at hp
  split at hp
  ·rcases List.mem_or_eq_of_mem_set hp with hp|rfl
   ·exact h.sz p hp
   ·exact ⟨show (0:Int)<=4 by decide,show (4:Int)<=4 by decide⟩
  ·exact h.sz p hp,fun x hx=>by rw[a5O];exact h.at' x hx⟩
theorem b2q {nm:List (ByteArray×Nat)}:∀{P:List Pn.Pz},Lay P nm->∀l:List Nat,Lay (a1N P l) nm
 | _,h,[]=>h
 | _,h,k::l=>b2q (c0r h k) l
def c9Z (w:World) (la na:Option Addr) (nm:List (ByteArray×Nat)) (N:Nat) (P1:List Pn.Pz) (mv:Value) (wr:World):Prop:=
 ∃(b:Bool) (P:List Pn.Pz) (f:Nat),mv=.bool b/\Hid (a3t w la na nm P wr)/\P.length=N/\Hid (Lay P nm)/\Hid (a12 nm (N+1) P1=a12 nm f P)/\Pn.c4 P<f/\(b=false->a1h P nm P.length=[])
theorem b2S {w:World} {base:Nat} {e:TypeId} {size:Nat} {ao:Option Addr} {n m cp:Nat} {xs:List Value} (h:w.ownsRow base e size (.slice ao m cp) n xs):n<=cp:=by
 obtain ⟨_,⟨h1,h2⟩|⟨g,cap,cur,h1,_,_,hle,_⟩⟩:=h
 ·omega
 ·injection h1 with _ _ h3
  omega
theorem c4x (s:ByteArray) (short:Bool) (w:World):
    Calls prog 98 #[.string s,.bool short] w fun e w'=>e=.returned (.tuple #[.string ⟨(b6u short s.data.toList).1.toArray⟩,.agg #[.int .i64 (b6u short s.data.toList).2.1,.int .i64 (b6u short s.data.toList).2.2]])/\Below w.heap.size w w':=by
 obtain ⟨k0,hkI,hk0,hk1,hk2⟩:=info_parts infoInt;have hsl:s.data.toList.length=s.size:=by show s.data.toList.length=s.data.size;rw[Array.length_toList]
 by_cases hs:s.size<=2000
 ·have HV:Hid (b6u short s.data.toList=match a5r (Pn.lnR [] s.data.toList) 0 [] [] with|((ps,nm),c,ln)=>if c=0 then c47 short ps nm else ([],c,ln)):=a0a (by unfold b6u;rw[if_neg (by omega)])
  have HS:=a0a (fun W=>b8b s W hs)
  have hs2:(s.size:Int)<=2000:=by omega
  have HFA:=a0a (a6v (Pn.lnR [] s.data.toList) 0 [] [] (fun p hp=>(by cases hp)) (fun p hp=>(by cases hp)))
  have hll:=a9X s.data.toList [];generalize a5r (Pn.lnR [] s.data.toList) 0 [] []=SR at *;obtain ⟨⟨ps,nm⟩,c,ln⟩:=SR;have hpl:ps.length<=5000:=by have:=HFA.out.2.2.1;simp at this hll;omega
  have hnl:nm.length<=5000:=by have:=HFA.out.2.2.2;simp at this hll;omega
  replace HFA:Hid ((∀p∈ps,p.1.bt.length<=4)/\(∀x∈nm,x.2<=ps.length)/\True):=a0a ⟨HFA.out.1,HFA.out.2.1,trivial⟩;clear hll;replace HV:Hid (b6u short s.data.toList=if c=0 then c47 short ps nm else ([],c,ln)):=HV;generalize b6u short s.data.toList=R at *;clear hsl;go_enter func98,ntmps98;go_wp2_with fail;refine (HS.out _).mono ?_;rintro e w1 ⟨la,n,cap,na,n',ncap,rfl,hop,hon,hB1⟩;simp only at hop hon;obtain ⟨la',cap',hse⟩:=a10 hop;injection hse with hs1 hs2' hs3
  subst hs1 hs2' hs3;obtain ⟨na',ncap',hse⟩:=a10 hon;injection hse with hs1 hs2' hs3
  subst hs1 hs2' hs3;have hF1:b9n w.heap.size w1:=b9n.below (w:=w.alloc (.cells #[.int .i64 0,.int .i64 0] 39)) ⟨by go_simp,by go_simp,fun q=>by go_simp⟩ hB1 (by simp)
  have hz1:w.heap.size<w1.heap.size:=by have:=hB1.size;simp at this;omega
  have HBw:Hid (Below w.heap.size w w1):=a0a (((Below.refl _ _).alloc (Nat.le_refl _) _).trans (hB1.mono (by simp)))
  have HPi:=a0a (c56 hop);have HNm:=a0a (c3T hon);have hcap:ps.length<=cap:=b2S hop;have hncap:nm.length<=ncap:=b2S hon;have HF1:=a0a hF1;obtain ⟨f0,f1,ff⟩:=hF1
  have HAP:Hid (∀B Bn:Nat,la=some ⟨B,0,none⟩->na=some ⟨Bn,0,none⟩->B≠Bn):=a0a (fun B Bn e1 e2 e3=>by
   subst e1 e2 e3;rcases a5K hop hon (by decide) with h|h
   ·cases h
   ·exact h rfl)
  clear HS hop hon hB1;by_cases hc:c=0
  ·subst hc
   replace HV:Hid (R=c47 short ps nm):=HV;go_upto_block 0 with fail;have hBa:Below w1.heap.size w1 (w1.alloc (.cells #[.int .i64 0,.int .i64 ln] 39)):=(Below.refl _ _).alloc (Nat.le_refl _) _;have HPi2:=a0a (a7S HPi.out hBa);have HNm2:=a0a (a6h HNm.out.1 hBa);have HF2:=a0a (HF1.out.below hBa hz1);have HBw2:=a0a (HBw.out.trans (hBa.mono (Nat.le_of_lt hz1)));(have hz2:w.heap.size<(w1.alloc (.cells #[.int .i64 0,.int .i64 ln] 39)).heap.size:=by simp;omega);(have hsa:(w.alloc (.cells #[.int .i64 0,.int .i64 0] 39)).heap.size=w.heap.size+1:=by simp);rw[hsa]at HPi2;clear hBa HPi HNm HF1 HBw f0 f1 ff hz1 hsa;generalize w1.alloc (.cells #[.int .i64 0,.int .i64 ln] 39)=w2 at *;(have HFB:∀{W:World} (a b:Value),Below w.heap.size w W->Below w.heap.size w ((W.setCell ⟨w.heap.size,0,none⟩ a).setCell ⟨w.heap.size,1,none⟩ b):=fun a b h=>(h.setCell (p:=⟨w.heap.size,0,none⟩) (Nat.le_refl _) a).setCell (p:=⟨w.heap.size,1,none⟩) (Nat.le_refl _) b);(have hP0:(ps.map fun p=>((p.1,p.2,0):Pn.Pz)).length=ps.length:=by simp);(have HL0:Hid (Lay (ps.map fun p=>((p.1,p.2,0):Pn.Pz)) nm):=a0a ⟨by rw[hP0];exact hpl,hnl,fun p hp=>by obtain ⟨x,_,rfl⟩:=List.mem_map.1 hp;exact ⟨Int.le_refl _,show (0:Int)<=4 by decide⟩,fun x hx=>by rw[hP0];exact HFA.out.2.1 x hx⟩);(have HVF:Hid (R=match (ps.map fun p=>((p.1,p.2,0):Pn.Pz)).find? (a8c (ps.map fun p=>(p.1,p.2,0)) nm) with|some p=>([],7,p.2.1)|none=>c44 nm (ps.length+1) (ps.map fun p=>(p.1,p.2,Pn.sz0 short p.1))):=HV);clear HV;(generalize hPP:(ps.map fun p=>((p.1,p.2,0):Pn.Pz))=P0 at *);have HPP:=a0a hPP;rw[<-hP0]at hcap hpl;have hPL:ps.length=P0.length:=hP0.symm;rw[hPL];clear hPP hP0;go_cut [9] (fun _ wx=>Hid (∀i p,i<P0.length->P0[i]?=some p->a8c P0 nm p=false)/\Below w2.heap.size w2 wx)
   case first=>
    go_wp2_with fail;(go_loopw [9] (fun kk wr=>∃j:Nat,j<=P0.length/\kk=.int .i64 j/\Below w2.heap.size w2 wr/\Hid (∀i p,i<j->P0[i]?=some p->a8c P0 nm p=false)) (fun kk _=>P0.length-(intOf kk).toNat));case atStart=>exact ⟨0,by omega,rfl,Below.refl _ _,a0a (fun i p h=>by omega)⟩
    case round=>
     obtain ⟨j,hj,rfl,hBr,HNo⟩:=hrel;have hzr:w2.heap.size<=wr.heap.size:=hBr.size;have HBr:=a0a hBr;by_cases hlt:j<P0.length
     ·have hgj:P0[j]?=some P0[j]:=by simp[hlt]
      obtain ⟨B,rfl,hBs,hcl⟩:=(a7S HPi2.out hBr).1 j P0[j] hgj
      have HNN:Hid (∀b,a8c P0 nm P0[j]=b->(b=true->R=([],7,P0[j].2.1))/\(b=false->∀i p,i<j+1->P0[i]?=some p->a8c P0 nm p=false)):=a0a (fun b hb=>⟨fun e=>(by rw[HVF.out,b4b hgj HNo.out (hb.trans e)]),fun e i p hi hp=>by
          by_cases h:i<j
          ·exact HNo.out i p h hp
          ·have:i=j:=by omega
           subst this;rw[hgj]at hp;(injection hp with hp);rw[<-hp];exact hb.trans e⟩)
      (have HFi:=a0a (fun W (hB:Below w2.heap.size w2 W)=>b7m HL0.out (a7S HPi2.out hB).1 (a6h HNm2.out hB) cap ncap ⟨(P0[j]).1.tg.toArray⟩));have y5:=hcl 5 _ rfl;have y8:=hcl 8 _ rfl;have HNL:Hid (a8c P0 nm P0[j]=(!(P0[j]).1.tg.isEmpty&&decide (Pn.fdR (Pn.szL P0) nm ⟨(P0[j]).1.tg.toArray⟩<0))):=a0a rfl;generalize P0[j]=pj at *;obtain ⟨⟨I,tg,sh,bt⟩,lj,sj⟩:=pj;simp only at *;generalize Pn.fdR (Pn.szL P0) nm ⟨tg.toArray⟩=FD at *;obtain ⟨x0,x1,xf⟩:=HF2.out.below hBr hz2;(have hlt2:(j:Int)<P0.length:=by omega);clear hBr hcl hgj HVF
      cases hte:tg.isEmpty with
      | true=>
       (have hts:tg=[]:=by simpa using hte);subst hts;(have HQ:=(HNN.out false (by rw[HNL.out];rfl)).2 rfl);go_wp2_with fail;go_roundw;(case rel=>exact ⟨j+1,by omega,by go_num,HBr.out,a0a HQ⟩);case measure=>simp[intOf];omega
      | false=>
       go_wp2_with fail;refine (HFi.out _ HBr.out).mono ?_;rintro e w3 ⟨rfl,rfl⟩;by_cases hfd:FD<0
       ·have HQ:=(HNN.out true (by rw[HNL.out,hte,decide_eq_true hfd];rfl)).1 rfl
        subst HQ;go_wp2_with fail;go_region;go_wp2_with fail;refine bodyPost_ret (v:=.tuple #[.string ⟨#[]⟩,.agg #[.int .i64 7,.int .i64 lj]]) (by simp[results,results98,go_sem,x0,x1,xf]) rfl ⟨rfl,below_drewN (HFB _ _ (HBw2.out.trans (HBr.out.mono (Nat.le_of_lt hz2)))) 1⟩
       ·have HQ:=a0a ((HNN.out false (by rw[HNL.out,decide_eq_false hfd,Bool.and_false])).2 rfl)
        go_wp2_with fail;go_roundw;(case rel=>exact ⟨j+1,by omega,by go_num,HBr.out,HQ⟩);case measure=>simp[intOf];omega
     ·have hje:j=P0.length:=by omega
      subst hje;clear hBr;go_wp2_with fail;go_meet;case rel=>exact ⟨HNo,HBr.out⟩
   case rest=>
    obtain ⟨HNo,hB3⟩:=hcut;have HA3:Hid (a3t w la na nm P0 wc):=a0a (a3t.below ⟨HPi2.out,HNm2.out,HF2.out,HBw2.out,hz2⟩ hB3)
    have HG:Hid (R=c44 nm (P0.length+1) (Pn.szA short P0)):=a0a (by
     rw[HVF.out,List.find?_eq_none.2 (fun p hp=>by
      obtain ⟨i,hi,e⟩:=List.getElem_of_mem hp;(rw[HNo.out i p hi (by rw[List.getElem?_eq_getElem hi,e])]);decide)]
     rw[hPL];unfold Pn.szA;rw[<-HPP.out,List.map_map];rfl)
    clear hB3 HNo HVF HPi2 HNm2 HF2 HBw2 hz2;go_upto_block 2 with fail;go_cut [10] (fun _ wx=>a3t w la na nm (Pn.szA short P0) wx)
    case first=>
     go_wp2_with fail;(go_loopw [10] (fun kk wr=>∃j:Nat,j<=P0.length/\kk=.int .i64 j/\Hid (a3t w la na nm (Pn.szA short (P0.take j)++P0.drop j) wr)) (fun kk _=>P0.length-(intOf kk).toNat));case atStart=>exact ⟨0,by omega,rfl,a0a (by simpa[Pn.szA] using HA3.out)⟩
     case round=>
      obtain ⟨j,hj,rfl,HA⟩:=hrel;by_cases hlt:j<P0.length
      ·have hgj:(Pn.szA short (P0.take j)++P0.drop j)[j]?=some P0[j]:=c5u short hlt
       have HST:=a0a (c1i short hlt);obtain ⟨B,rfl,hBs,hcl⟩:=HA.out.1.1 j P0[j] hgj;obtain ⟨_,_,hfr⟩:=HA.out.1.2 B rfl;generalize (Pn.szA short (P0.take j)++P0.drop j)=PJ at *;generalize P0[j]=pj at *;obtain ⟨⟨I,tg,sh,bt⟩,lj,sj⟩:=pj;simp only at *;have y0:=hcl 0 _ rfl;rw[Nat.add_zero]at y0;have y1:=hcl 1 _ rfl;have y2:=hcl 2 _ rfl;have y3:=hcl 3 _ rfl;have y4:=hcl 4 _ rfl;have y5:=hcl 5 _ rfl;have y6:=hcl 6 _ rfl;have y7:=hcl 7 _ rfl;have y9:=hcl 9 _ rfl;(have hlt2:(j:Int)<P0.length:=by omega);have HA4:=a0a (HA.out.set HAP.out rfl hgj 4);(have HSh:=a0a (fun W=>a2U I W));generalize hsh:a0S I=SH at *;obtain ⟨shv,se⟩:=SH;(have HSZ:Hid (Pn.sz0 short ⟨I,tg,sh,bt⟩=if bt≠[] then (bt.length:Int) else if sh||(short&&(!tg.isEmpty||se==0)) then 2 else 4):=a0a (by unfold Pn.sz0;rw[hsh]));clear hcl hsh;go_wp2_with fail;refine (HSh.out _).mono ?_;rintro e w5 ⟨rfl,hB5⟩;have HA6:=a0a (HA4.out.below hB5)
       have hg6:(PJ.set j (⟨I,tg,sh,bt⟩,lj,4))[j]?=some (⟨I,tg,sh,bt⟩,lj,4):=by
        rw[List.getElem?_set_self];rcases Nat.lt_or_ge j PJ.length with h|h
        ·exact h
        ·rw[List.getElem?_eq_none h]at hgj;cases hgj
       obtain ⟨B',e',hBs6,hcl⟩:=HA6.out.1.1 j _ hg6;(injection e' with e');(injection e' with e');subst e';obtain ⟨_,_,hfr6⟩:=HA6.out.1.2 B rfl;clear y0 y1 y2 y3 y4 y5 y6 y7 y9 hfr hBs hB5;have y5:=hcl 5 _ rfl;have y6:=hcl 6 _ rfl;have y7:=hcl 7 _ rfl;have y9:=hcl 9 _ rfl;clear hcl
       cases hbe:bt.isEmpty with
       | false=>
        (have hbn:bt≠[]:=by intro h;rw[h]at hbe;cases hbe);rw[if_pos hbn]at HSZ;clear hbn;go_wp2_with fail;go_roundw;(case rel=>exact ⟨j+1,by omega,by go_num,a0a (by have:=HA6.out.set HAP.out rfl hg6 (bt.length:Int);rw[List.set_set]at this;rw[<-HST.out,HSZ.out];exact this)⟩);case measure=>simp[intOf];omega
       | true=>
        (have hbn:bt=[]:=by simpa using hbe);subst hbn;(rw[if_neg (by simp)]at HSZ);clear hbe
        cases sh with
        | true=>
         (rw[if_pos (by simp)]at HSZ);go_wp2_with fail;go_roundw;(case rel=>exact ⟨j+1,by omega,by go_num,a0a (by have:=HA6.out.set HAP.out rfl hg6 2;rw[List.set_set]at this;rw[<-HST.out,HSZ.out];exact this)⟩);case measure=>simp[intOf];omega
        | false=>
         cases short with
         | false=>
          (rw[if_neg (by simp)]at HSZ);go_wp2_with fail;go_roundw;(case rel=>exact ⟨j+1,by omega,by go_num,a0a (by rw[<-HST.out,HSZ.out];exact HA6.out)⟩);case measure=>simp[intOf];omega
         | true=>
          cases hte:tg.isEmpty with
          | false=>
           (rw[if_pos (by simp[hte])]at HSZ);go_wp2_with fail;go_roundw;(case rel=>exact ⟨j+1,by omega,by go_num,a0a (by have:=HA6.out.set HAP.out rfl hg6 2;rw[List.set_set]at this;rw[<-HST.out,HSZ.out];exact this)⟩);case measure=>simp[intOf];omega
          | true=>
           (have hts:tg=[]:=by simpa using hte);subst hts;clear hte;by_cases hse:se=0
           ·subst hse
            (rw[if_pos (by simp)]at HSZ);go_wp2_with fail;go_roundw;(case rel=>exact ⟨j+1,by omega,by go_num,a0a (by have:=HA6.out.set HAP.out rfl hg6 2;rw[List.set_set]at this;rw[<-HST.out,HSZ.out];exact this)⟩);case measure=>simp[intOf];omega
           ·have hsb:(se==0)=false:=by simpa using hse
            (rw[if_neg (by simp[hsb])]at HSZ);go_wp2_with fail;go_roundw;(case rel=>exact ⟨j+1,by omega,by go_num,a0a (by rw[<-HST.out,HSZ.out];exact HA6.out)⟩);case measure=>simp[intOf];omega
      ·have hje:j=P0.length:=by omega
       subst hje;go_wp2_with fail;go_meet;case rel=>have:=HA.out;rw[List.take_length,List.drop_length,List.append_nil]at this;exact this
    case rest=>
     have HA5:=a0a hcut;have hN1:(Pn.szA short P0).length=P0.length:=by simp[Pn.szA]
     have HL1:Hid (Lay (Pn.szA short P0) nm):=a0a ⟨by rw[hN1];exact hpl,hnl,fun p hp=>by
      obtain ⟨x,hx,rfl⟩:=List.mem_map.1 hp;rw[<-HPP.out]at hx;obtain ⟨y,hy,rfl⟩:=List.mem_map.1 hx;exact c2Q short (HFA.out.1 y hy),fun x hx=>by rw[hN1,<-hPL];exact HFA.out.2.1 x hx⟩
     have HB1:Hid (∀p∈Pn.szA short P0,p.1.bt.length<=4):=a0a (fun p hp=>by
      obtain ⟨x,hx,rfl⟩:=List.mem_map.1 hp;rw[<-HPP.out]at hx;obtain ⟨y,hy,rfl⟩:=List.mem_map.1 hx;exact HFA.out.1 y hy)
     generalize hPA:Pn.szA short P0=P1 at *;generalize hNN:P0.length=N at *;clear HA3 hcut hPA HPP HFA hPL HL0;go_upto_block 5 with fail;go_cut [13] (fun _ wx=>∃P,Hid (a3t w la na nm P wx)/\Hid (P.length=N/\Lay P nm/\a12 nm (N+1) P1=P))
     case first=>
      go_wp2_with fail;(go_loopw [13] (fun mv wr=>c9Z w la na nm N P1 mv wr) (fun mv wr=>2*c4w la N wr+bOf mv));case atStart=>exact ⟨true,P1,N+1,rfl,HA5,hN1,HL1,a0a rfl,by have:=c4R P1;omega,fun h=>by cases h⟩
      case round=>
       obtain ⟨b,P,f,rfl,HA,hPN,HL,HGR,hf,hbb⟩:=hrel;have HC4:=a0a (c2S HA.out hPN)
       cases b with
       | false=>
        go_wp2_with fail;go_meet;case rel=>exact ⟨P,HA,a0a ⟨hPN,HL.out,HGR.out.trans (a8B (by omega) (hbb (by trivial)))⟩⟩
       | true=>
        clear hbb;obtain ⟨w0,hw0⟩:∃w0,w0=wr:=⟨_,rfl⟩;subst hw0;go_upto_block 7 with fail;go_cut [14] (fun gv wx=>Hid (wx.ownsRow w0.heap.size 3 1 gv (a1h P nm N).length ((a1h P nm N).map Pn.grV))/\Below w0.heap.size w0 wx)
        case first=>
         go_wp2_with fail;(go_loopw [14,15] (fun gv kk wx=>∃j:Nat,j<=N/\kk=.int .i64 j/\Hid (wx.ownsRow w0.heap.size 3 1 gv (a1h P nm j).length ((a1h P nm j).map Pn.grV))/\Below w0.heap.size w0 wx) (fun _ kk _=>N-(intOf kk).toNat));case atStart=>exact ⟨0,by omega,rfl,a0a (World.ownsRow_nil _ _ _ _),Below.refl _ _⟩
         case round=>
          obtain ⟨j,hj,rfl,HG7,hBx⟩:=hrel;have HBx:=a0a hBx;have hzx:w0.heap.size<=wr.heap.size:=hBx.size;by_cases hlt:j<N
          ·have hgj:P[j]?=some (P[j]'(by omega)):=List.getElem?_eq_getElem _
           (generalize P[j]'(by omega)=pj at *);have HAx:=HA.out.below hBx;obtain ⟨B,rfl,hBs,hcl⟩:=HAx.1.1 j pj hgj;(have HRe:=a0a (a8L _ na P nm cap ncap j pj wr HL.out HAx.1.1 HAx.2.1 hgj (by omega)));rw[hPN]at HRe;have HGS:=a0a (b5H (nm:=nm) hgj);(have HSh:=a0a (fun W=>a2U (a4s P nm pj.1 j) W));have HGv:Hid (a5v P nm j pj=(!pj.1.tg.isEmpty&&(pj.2.2 != 4&&(a0S (a4s P nm pj.1 j)).2 != 0))):=a0a rfl;generalize a5v P nm j pj=gb at *;generalize a0S (a4s P nm pj.1 j)=SH at *;generalize a4s P nm pj.1 j=RI at *;obtain ⟨shv,se⟩:=SH;obtain ⟨⟨I,tg,sh,bt⟩,lj,sj⟩:=pj;simp only at *;have y5:=hcl 5 _ rfl;have y9:=hcl 9 _ rfl;(have hlt2:(j:Int)<N:=by omega);(have hGl:(a1h P nm j).length<=5000:=by have:=b05 P nm j;omega);clear hBx hcl HAx
           cases hte:tg.isEmpty with
           | true=>
            (have hts:tg=[]:=by simpa using hte);subst hts;rw[HGv.out]at HGS;go_wp2_with fail;go_roundw;(case rel=>exact ⟨j+1,by omega,by go_num,a0a (by rw[HGS.out];simpa using HG7.out),HBx.out⟩);case measure=>simp[intOf];omega
           | false=>
            by_cases hs4:sj=4
            ·subst hs4
             (have hgf:gb=false:=by rw[HGv.out,hte];rfl);rw[hgf]at HGS;go_wp2_with fail;go_roundw;(case rel=>exact ⟨j+1,by omega,by go_num,a0a (by rw[HGS.out];simpa using HG7.out),HBx.out⟩);case measure=>simp[intOf];omega
            ·have hsb:(sj==4)=false:=by simpa using hs4
             (have hsb2:(sj != 4)=true:=by simpa using hs4);go_wp2_with fail;refine HRe.out.mono ?_;rintro e w5 ⟨rfl,hB5⟩;have HG5:=a0a (a1H HG7.out hB5);have HB5:Hid (Below w0.heap.size w0 w5):=a0a (HBx.out.trans (hB5.mono hzx));have hz5:w0.heap.size<=w5.heap.size:=HB5.out.size;clear hB5 HG7 HBx y5 y9;go_wp2_with fail;refine (HSh.out _).mono ?_;rintro e w6 ⟨rfl,hB6⟩;have HG6:=a0a (a1H HG5.out hB6);have HB6:Hid (Below w0.heap.size w0 w6):=a0a (HB5.out.trans (hB6.mono hz5));have hz6:w0.heap.size<=w6.heap.size:=HB6.out.size;clear hB6 HG5 HB5;by_cases hse:se=0
             ·subst hse
              (have hgf:gb=false:=by rw[HGv.out,hte,hsb2];rfl);rw[hgf]at HGS;go_wp2_with fail;go_roundw;(case rel=>exact ⟨j+1,by omega,by go_num,a0a (by rw[HGS.out];simpa using HG6.out),HB6.out⟩);case measure=>simp[intOf];omega
             ·have hsn:(se != 0)=true:=by simpa using hse
              (have hgt:gb=true:=by rw[HGv.out,hte,hsb2,hsn];rfl);rw[hgt]at HGS;obtain ⟨gao,gcp,rfl⟩:=a10 HG6.out;generalize hGL:a1h P nm j=GL at *;clear hGL;(go_wp2_with (at_builtin;refine wpList_append_own _ rfl _ _ 49 rfl w0.heap.size 3 k0 _ 1 8 underlying49 hkI hk0 hk1 hk2 rfl (by decide) _ _ _ rfl (HG6.out.alloc _) ⟨w6.heap.size,0,none⟩ 1 1 [Pn.grV j] rfl rfl ?c1 ?c2 ?c3 ?c4 ?c5 ?_));(case c1=>exact a2D w6 [Pn.grV j] 3);(case c2=>intro u hu;rw[List.mem_singleton.1 hu];rfl);(case c3=>unfold maxLen;omega);(case c4=>omega);(case c5=>simp;omega);intro v' w7 hown' hgrow _;(have HG8:Hid (w7.ownsRow w0.heap.size 3 1 v' (a1h P nm (j+1)).length ((a1h P nm (j+1)).map Pn.grV)):=a0a (by rw[HGS.out];simpa using hown'));(have HB8:Hid (Below w0.heap.size w0 w7):=a0a ((HB6.out.alloc hz6 _).grown hgrow (by simp;omega) (fun j hj=>by have:=(HG6.out.lt j hj).1;omega)));clear hown' hgrow;go_wp2_with fail;go_roundw;(case rel=>exact ⟨j+1,by omega,by go_num,HG8,HB8.out⟩);case measure=>simp[intOf];omega
          ·have hje:j=N:=by omega
           subst hje;go_wp2_with fail;go_meet;case rel=>exact ⟨HG7,HBx.out⟩
        case rest=>
         obtain ⟨HG9,hB9⟩:=hcut;have HA9:=a0a (HA.out.below hB9);have hz9:w0.heap.size<=wc.heap.size:=hB9.size;(have HGM:Hid (∀i∈a1h P nm N,i<N):=a0a (fun i hi=>(b1O hi).1));(have hGl:(a1h P nm N).length<=5000:=by have:=b05 P nm N;omega);(have HGG:Hid (a1h P nm P.length=a1h P nm N):=a0a (by rw[hPN]));obtain ⟨ga,gc,rfl⟩:=a10 HG9.out;have hgc:=b2S HG9.out;generalize a1h P nm N=G at *;clear hB9;go_wp2_with fail;(go_loopw [13,18] (fun mv kk wx=>∃j:Nat,j<=G.length/\kk=.int .i64 j/\mv=.bool (decide (0<j))/\Hid (a3t w la na nm (a1N P (G.take j)) wx)/\Hid (wx.ownsRow w0.heap.size 3 1 (.slice ga G.length gc) G.length (G.map Pn.grV))) (fun _ kk _=>G.length-(intOf kk).toNat));case atStart=>exact ⟨0,by omega,rfl,by simp,HA9,HG9⟩
         case round=>
          obtain ⟨j,hj,rfl,rfl,HAj,HGj⟩:=hrel;by_cases hlt:j<G.length
          ·obtain ⟨gg,gcap,hv,hgb,hgs,_,hcc⟩:=a3M HGj.out (by omega)
           (injection hv with hv1 _ hv3);subst hv1 hv3
           have c0:wr.cell? ⟨gg,j,none⟩=some (.int .i64 (G[j]:Nat)):=by
            (have:=hcc j (Pn.grV G[j]) (by simp[hlt]));rw[a5X]at this;exact this
           have hiN:=HGM.out G[j] (List.getElem_mem hlt);(have HTQ:Hid (a1N P (G.take (j+1))=a6B (a1N P (G.take j)) G[j]):=a0a (by unfold a1N;rw[List.take_add_one,List.getElem?_eq_getElem hlt,List.foldl_append];rfl));(have hFl:(a1N P (G.take j)).length=N:=by rw[a4M,hPN]);generalize G[j]=gi at *;(have hgi:(a1N P (G.take j))[gi]?=some ((a1N P (G.take j))[gi]'(by omega)):=List.getElem?_eq_getElem _);(generalize (a1N P (G.take j))[gi]'(by omega)=pi at *);obtain ⟨B,rfl,hBs,hcl⟩:=HAj.out.1.1 gi pi hgi;obtain ⟨_,_,hfr⟩:=HAj.out.1.2 B rfl;have hB0:=(HA.out.1.2 B rfl).2.1;have y9:=hcl 9 _ rfl;have HAn:=a0a (HAj.out.set HAP.out rfl hgi 4);(have HF4:Hid (a6B (a1N P (G.take j)) gi=(a1N P (G.take j)).set gi (pi.1,pi.2.1,4)):=a0a (by unfold a6B;rw[hgi]));have HGn:=a0a (ownsRow_setCell_below HGj.out (a:=⟨B,gi*10+9,none⟩) hB0 (.int .i64 4));(have hlt2:(j:Int)<G.length:=by omega);(have hiN2:(gi:Int)<N:=by omega);generalize a1N P (G.take j)=PF at *;clear hcl hcc;go_wp2_with fail;go_roundw;(case rel=>exact ⟨j+1,by omega,by go_num,by simp,a0a (by rw[HTQ.out,HF4.out];exact HAn.out),HGn⟩);case measure=>simp[intOf];omega
          ·have hje:j=G.length:=by omega
           subst hje;(have HAe:Hid (a3t w la na nm (a1N P G) wr):=a0a (by have:=HAj.out;rw[List.take_length]at this;exact this));(have HCe:=a0a (c2S HAe.out (by rw[a4M,hPN])));(have HCG:Hid (G≠[]->Pn.c4 (a1N P G)<Pn.c4 P):=a0a (fun h=>by have:=b3i (P:=P) (nm:=nm) (by rw[HGG.out];exact h);rw[HGG.out]at this;exact this));clear HAj HGj HG9 HA9;go_wp2_with fail;go_roundw
           case rel=>
            by_cases hG:G=[]
            ·subst hG
             exact ⟨false,P,f,rfl,HAe,hPN,HL,HGR,hf,fun _=>HGG.out⟩
            ·have hpos:0<G.length:=List.length_pos_iff.2 hG
             refine ⟨true,a1N P G,f-1,by simp[hpos],HAe,by rw[a4M,hPN],a0a (b2q HL.out G),a0a (HGR.out.trans ?_),?_,fun h=>by cases h⟩
             ·rw[a6M (by omega) (by rw[HGG.out];exact hG),HGG.out]
             ·have:=HCG.out hG
              omega
           case measure=>
            rw[HCe.out,HC4.out];by_cases hG:G=[]
            ·subst hG
             show 2*Pn.c4 P+0<2*Pn.c4 P+1;omega
            ·have h1:=HCG.out hG
             have hpos:0<G.length:=List.length_pos_iff.2 hG;rw[decide_eq_true hpos];show 2*Pn.c4 (a1N P G)+1<2*Pn.c4 P+1;omega
     case rest=>
      obtain ⟨P,HA,HQ⟩:=hcut;obtain ⟨hPN,hLP,hGP⟩:=HQ.out;have HL:=a0a hLP
      have HBT:Hid (∀p∈P,p.1.bt.length<=4):=a0a (fun p hp=>by
       rw[<-hGP]at hp;obtain ⟨q,hq,e⟩:=a9d nm _ hp;rw[<-e];exact HB1.out q hq)
      (have HR:Hid (R=if 1024<Pn.plR (Pn.szL P) P.length then ([],8,0) else b52 P nm 0 P []):=a0a (by rw[HG.out];unfold c44;rw[hGP]));have hpb:=a65 hLP.szs P.length;(have HPl:=a0a (fun W (hB:Below wc.heap.size wc W)=>b3X hLP (a7P HA.out.1.1 hB) cap P.length (Nat.le_refl _)));obtain ⟨x0,x1,xf⟩:=HA.out.2.2.1;have HBw:=a0a HA.out.2.2.2.1;generalize Pn.plR (Pn.szL P) P.length=PLN at *;rw[hPN]at HPl hpb;clear HG HQ hLP hGP HA5 HL1;go_wp2_with fail;refine (HPl.out _ (Below.refl _ _)).mono ?_;rintro e w2 ⟨rfl,rfl⟩;by_cases h1k:1024<PLN
      ·have HQ:R=([],8,0):=HR.out.trans (if_pos h1k)
       subst HQ;go_wp2_with fail;refine bodyPost_ret (v:=.tuple #[.string ⟨#[]⟩,.agg #[.int .i64 8,.int .i64 0]]) (by simp[results,results98,go_sem,x0,x1,xf]) rfl ⟨rfl,HFB _ _ HBw.out⟩
      ·replace HR:Hid (R=b52 P nm 0 P []):=a0a (HR.out.trans (if_neg h1k))
       clear HPl HBw x0 x1 xf;go_wp2_with fail;(go_loopw [19,20] (fun ov kk wr=>∃(j:Nat) (acc:List UInt8),j<=N/\kk=.int .i64 j/\ov=.string ⟨acc.toArray⟩/\acc.length<=4*j/\Hid (a3t w la na nm P wr)/\Hid (R=b52 P nm j (P.drop j) acc)) (fun _ kk _=>N-(intOf kk).toNat));case atStart=>exact ⟨0,[],by omega,rfl,rfl,by simp,HA,HR⟩
       case round=>
        obtain ⟨j,acc,hj,rfl,rfl,hacc,HAj,HRj⟩:=hrel;by_cases hlt:j<N
        ·have hgj:P[j]?=some (P[j]'(by omega)):=List.getElem?_eq_getElem _
         (have HDr:Hid (P.drop j=P[j]'(by omega)::P.drop (j+1)):=a0a (List.drop_eq_getElem_cons _));rw[HDr.out]at HRj;(have hsz:=HL.out.sz (P[j]'(by omega)) (List.getElem_mem _));(have hbt:=HBT.out (P[j]'(by omega)) (List.getElem_mem _));(generalize P[j]'(by omega)=pj at *);obtain ⟨B,rfl,hBs,hcl⟩:=HAj.out.1.1 j pj hgj;(have HRe:=a0a (a8L _ na P nm cap ncap j pj wr HL.out HAj.out.1.1 HAj.out.2.1 hgj (by omega)));rw[hPN]at HRe;obtain ⟨⟨I,tg,sh,bt⟩,lj,sj⟩:=pj;simp only[b52]at HRj;simp only at *;have y5:=hcl 5 _ rfl;have y7:=hcl 7 _ rfl;have y8:=hcl 8 _ rfl;have y9:=hcl 9 _ rfl;(have hlt2:(j:Int)<N:=by omega);clear hcl HDr
         cases hbe:bt.isEmpty with
         | false=>
          (have hbn:bt≠[]:=by intro h;rw[h]at hbe;cases hbe);rw[if_pos hbn]at HRj;clear hbn;go_wp2_with fail;go_roundw;(case rel=>exact ⟨j+1,acc++bt,by omega,by go_num,congrArg Value.string (ByteArray.ext (by simp)),by simp;omega,HAj,HRj⟩);case measure=>simp[intOf];omega
         | true=>
          (have hbn:bt=[]:=by simpa using hbe);subst hbn;(rw[if_neg (by simp)]at HRj);clear hbe;(have HEn:=a0a (fun W=>a6I (a4s P nm ⟨I,tg,sh,[]⟩ j) W));(have HSh:=a0a (fun W=>a2U (a4s P nm ⟨I,tg,sh,[]⟩ j) W));have heb:=c5F (a4s P nm ⟨I,tg,sh,[]⟩ j);have hsb:=b73 (a4s P nm ⟨I,tg,sh,[]⟩ j);generalize Pn.enc (a4s P nm ⟨I,tg,sh,[]⟩ j)=EN at *;generalize a0S (a4s P nm ⟨I,tg,sh,[]⟩ j)=SH at *;generalize a4s P nm ⟨I,tg,sh,[]⟩ j=RI at *;obtain ⟨ev,ee⟩:=EN;obtain ⟨sv,se⟩:=SH;obtain ⟨rop,rrd,rr1,rr2,rim⟩:=RI;simp only at *;go_wp2_with fail;refine HRe.out.mono ?_;rintro e w5 ⟨rfl,hB5⟩;have HA5:=a0a (HAj.out.below hB5);clear y5 y7 y8 y9 hBs hB5 HAj HRe;obtain ⟨B',e',hBs,hcl⟩:=HA5.out.1.1 j _ hgj;(injection e' with e');(injection e' with e');subst e';have y5:=hcl 5 _ rfl;have y8:=hcl 8 _ rfl;have y9:=hcl 9 _ rfl;obtain ⟨x0,x1,xf⟩:=HA5.out.2.2.1;clear hcl;unfold Pn.Ins.val;go_upto_region 45 with fail;have hBa:Below w5.heap.size w5 (w5.alloc (.cells #[.int .i64 rop,.int .i64 rrd,.int .i64 rr1,.int .i64 rr2,.int .i64 rim] 26)):=(Below.refl _ _).alloc (Nat.le_refl _) _;have HA6:=a0a (HA5.out.below hBa);(have i0:(w5.alloc (.cells #[.int .i64 rop,.int .i64 rrd,.int .i64 rr1,.int .i64 rr2,.int .i64 rim] 26)).cell? ⟨w5.heap.size,0,none⟩=some (.int .i64 rop):=by go_simp);(have i1:(w5.alloc (.cells #[.int .i64 rop,.int .i64 rrd,.int .i64 rr1,.int .i64 rr2,.int .i64 rim] 26)).cell? ⟨w5.heap.size,1,none⟩=some (.int .i64 rrd):=by go_simp);(have i2:(w5.alloc (.cells #[.int .i64 rop,.int .i64 rrd,.int .i64 rr1,.int .i64 rr2,.int .i64 rim] 26)).cell? ⟨w5.heap.size,2,none⟩=some (.int .i64 rr1):=by go_simp);(have i3:(w5.alloc (.cells #[.int .i64 rop,.int .i64 rrd,.int .i64 rr1,.int .i64 rr2,.int .i64 rim] 26)).cell? ⟨w5.heap.size,3,none⟩=some (.int .i64 rr2):=by go_simp);(have i4:(w5.alloc (.cells #[.int .i64 rop,.int .i64 rrd,.int .i64 rr1,.int .i64 rr2,.int .i64 rim] 26)).cell? ⟨w5.heap.size,4,none⟩=some (.int .i64 rim):=by go_simp);(have hbI:w5.heap.size<(w5.alloc (.cells #[.int .i64 rop,.int .i64 rrd,.int .i64 rr1,.int .i64 rr2,.int .i64 rim] 26)).heap.size:=by simp);replace y5:=(hBa.cell (p:=⟨B,j*10+5,none⟩) hBs).trans y5;replace y8:=(hBa.cell (p:=⟨B,j*10+8,none⟩) hBs).trans y8;replace y9:=(hBa.cell (p:=⟨B,j*10+9,none⟩) hBs).trans y9;obtain ⟨x0,x1,xf⟩:=HA6.out.2.2.1;(replace hBs:B<(w5.alloc (.cells #[.int .i64 rop,.int .i64 rrd,.int .i64 rr1,.int .i64 rr2,.int .i64 rim] 26)).heap.size:=by have:=hBa.size;omega);have HIN:=a0a (And.intro i0 (And.intro i1 (And.intro i2 (And.intro i3 i4))));clear hBa HA5;generalize w5.alloc (.cells #[.int .i64 rop,.int .i64 rrd,.int .i64 rr1,.int .i64 rr2,.int .i64 rim] 26)=w6 at *;generalize w5.heap.size=bI at *;go_cut [217] (fun b wx=>b=.bool (decide (rim%2≠0/\tg≠[]))/\w6=wx)
          case first=>
           by_cases hodd:rim%2=0
           ·have t1:rim.tmod 2=0:=(a7y rim).2 hodd
            (have t2:decide (rim%2≠0/\tg≠[])=false:=by simp[hodd]);have HT2:=a0a t2;clear t2;go_wp2_with fail;go_meet;case rel=>exact ⟨by rw[HT2.out],rfl⟩
           ·have t1:(rim.tmod 2 != 0)=true:=by simpa using fun h=>hodd ((a7y rim).1 h)
            cases hte:tg.isEmpty with
            | true=>
             (have hts:tg=[]:=by simpa using hte);(have t2:decide (rim%2≠0/\tg≠[])=false:=by simp[hts]);have HT2:=a0a t2;clear t2;go_wp2_with fail;go_meet;case rel=>exact ⟨by rw[HT2.out],rfl⟩
            | false=>
             (have hts:tg≠[]:=by intro h;rw[h]at hte;cases hte);have t2:decide (rim%2≠0/\tg≠[])=true:=decide_eq_true ⟨hodd,hts⟩;have HT2:=a0a t2;clear t2;go_wp2_with fail;go_meet;case rel=>exact ⟨by rw[HT2.out],rfl⟩
          case rest=>
           obtain ⟨rfl,hw⟩:=hcut;subst hw;by_cases hret:rim%2≠0/\tg≠[]
           ·have HQ:R=([],5,lj):=HRj.out.trans (if_pos hret)
            subst HQ;rw[decide_eq_true hret];have HBw:=a0a HA6.out.2.2.2.1;go_wp2_with fail;go_region;go_wp2_with fail;refine bodyPost_ret (v:=.tuple #[.string ⟨#[]⟩,.agg #[.int .i64 5,.int .i64 lj]]) (by simp[results,results98,go_sem,x0,x1,xf]) rfl ⟨rfl,below_drewN (HFB _ _ HBw.out) 1⟩
           ·rw[if_neg hret]at HRj
            rw[decide_eq_false hret];clear hret;go_wp2_with fail;refine (HEn.out _).mono ?_;rintro e w7 ⟨rfl,hB7⟩;have HA7:=a0a (HA6.out.below hB7);replace i0:=(hB7.cell (p:=⟨bI,0,none⟩) hbI).trans i0;replace i1:=(hB7.cell (p:=⟨bI,1,none⟩) hbI).trans i1;replace i2:=(hB7.cell (p:=⟨bI,2,none⟩) hbI).trans i2;replace i3:=(hB7.cell (p:=⟨bI,3,none⟩) hbI).trans i3;replace i4:=(hB7.cell (p:=⟨bI,4,none⟩) hbI).trans i4;replace y9:=(hB7.cell (p:=⟨B,j*10+9,none⟩) hBs).trans y9;clear y5 y8 x0 x1 xf hB7 HA6 HIN;go_upto_if 234 with fail;go_cut [22] (fun wv wx=>wv=.int .i64 (if sj=2 then sv else ev)/\Below w7.heap.size w7 wx)
            case first=>
             by_cases hs2':sj=2
             ·subst hs2'
              go_wp2_with fail;refine (HSh.out _).mono ?_;rintro e w8 ⟨rfl,hB8⟩;have HB8:=a0a hB8;clear hB8;go_wp2_with fail;go_meet;case rel=>exact ⟨rfl,HB8.out⟩
             ·have hsb2:(sj==2)=false:=by simpa using hs2'
              go_wp2_with fail;go_meet;case rel=>exact ⟨by rw[if_neg hs2'],Below.refl _ _⟩
            case rest=>
             obtain ⟨rfl,hB8⟩:=hcut;have HA8:=a0a (HA7.out.below hB8);(have hX:0<=(if sj=2 then sv else ev)/\(if sj=2 then sv else ev)<=4294967296:=by split<;>omega);generalize (if sj=2 then sv else ev)=X at *;obtain ⟨hX0,hX1⟩:=hX;clear hB8 HA7 i0 i1 i2 i3 i4 y9 HSh HEn heb hsb;obtain ⟨z,hz⟩:=Int.eq_ofNat_of_zero_le hsz.1;subst hz;(have hz4:z<=4:=by omega);rw[Int.toNat_natCast]at HRj;go_wp2_with fail;(go_loopw [19,22,24] (fun ov wv bv wx=>∃q:Nat,q<=z/\bv=.int .i64 q/\wv=.int .i64 (X/256^q)/\ov=.string ⟨(acc++a2I q X).toArray⟩/\Hid (a3t w (some ⟨B,0,none⟩) na nm P wx)) (fun _ _ bv _=>z-(intOf bv).toNat));case atStart=>exact ⟨0,by omega,rfl,by simp,by simp[a2I],HA8⟩
             case round=>
              obtain ⟨q,hq,rfl,rfl,rfl,HAq⟩:=hrel;obtain ⟨B',e',hBs',hcl⟩:=HAq.out.1.1 j _ hgj;(injection e' with e');(injection e' with e');subst e';have y9:=hcl 9 _ rfl;clear hcl;by_cases hqz:q<z
              ·obtain ⟨q0,q1,qs⟩:=a7s X q (by omega) (by omega)
               have HXS:=a0a qs;have HSN:=a0a (a4Q q X);(have hln:(acc++a2I q X).length<=20010:=by rw[List.length_append,a2d];omega);clear qs;generalize hXq:X/256^q=x at *;(have hcv:=a56 wr (x%256) (by omega) (by omega));(have HAP2:Hid ((acc++a2I (q+1) X)=(acc++a2I q X)++[UInt8.ofNat (x%256).toNat]):=a0a (by rw[HSN.out,List.append_assoc]));have HAw:=a0a (HAq.out.below ((Below.refl _ _).alloc (Nat.le_refl _) (.cells #[.int .u8 (x%256)] 5)));generalize acc++a2I q X=AC at *;(have hqz2:(q:Int)<z:=by omega);clear hXq;go_wp2_with fail;go_roundw;(case rel=>exact ⟨q+1,by omega,by go_num,by rw[HXS.out],by rw[HAP2.out];exact congrArg Value.string (ByteArray.ext (by simp)),HAw⟩);case measure=>simp[intOf];omega
              ·have hqe:q=z:=by omega
               subst hqe;go_wp2_with fail;go_roundw;(case rel=>exact ⟨j+1,acc++a2I q X,by omega,by go_num,rfl,by rw[List.length_append,a2d];omega,HAq,HRj⟩);case measure=>simp[intOf];omega
        ·have hje:j=N:=by omega
         subst hje;(have HQ:R=(acc,0,0):=HRj.out.trans (by rw[<-hPN,List.drop_length];rfl));subst HQ;obtain ⟨x0,x1,xf⟩:=HAj.out.2.2.1;have HBw:=a0a HAj.out.2.2.2.1;go_wp2_with fail;refine bodyPost_ret (v:=.tuple #[.string ⟨acc.toArray⟩,.agg #[.int .i64 0,.int .i64 0]]) (by simp[results,results98,go_sem,x0,x1,xf]) rfl ⟨rfl,HFB _ _ HBw.out⟩
  ·have HQ:R=([],c,ln):=HV.out.trans (if_neg hc)
   subst HQ;(have hcb:(c != 0)=true:=by simpa using hc);clear HV hc;go_wp2_with fail;go_region;go_wp2_with fail;(have e0:(((w1.setCell ⟨w.heap.size,0,none⟩ (.int .i64 c)).setCell ⟨w.heap.size,1,none⟩ (.int .i64 ln)).alloc (.cells #[.int .i64 c,.int .i64 ln] 39)).cell? ⟨w.heap.size,0,none⟩=some (.int .i64 c):=by go_simp);(have e1:(((w1.setCell ⟨w.heap.size,0,none⟩ (.int .i64 c)).setCell ⟨w.heap.size,1,none⟩ (.int .i64 ln)).alloc (.cells #[.int .i64 c,.int .i64 ln] 39)).cell? ⟨w.heap.size,1,none⟩=some (.int .i64 ln):=by go_simp);refine bodyPost_ret (v:=.tuple #[.string ⟨#[]⟩,.agg #[.int .i64 c,.int .i64 ln]]) (by simp[results,results98,go_sem,e0,e1]) rfl ⟨rfl,below_drewN (((HBw.out.setCell (p:=⟨w.heap.size,0,none⟩) (Nat.le_refl _) _).setCell (p:=⟨w.heap.size,1,none⟩) (Nat.le_refl _) _).alloc (by simp[World.setCell];omega) _) 1⟩
 ·have HQ:Hid (b6u short s.data.toList=([],3,0)):=a0a (by unfold b6u;rw[if_pos (by omega)])
  generalize b6u short s.data.toList=R at *;have HQ':=HQ.out;subst HQ';have hs2:(2000:Int)<s.size:=by omega
  have hs3:2000<s.size:=by omega
  clear hsl hs HQ;go_enter func98,ntmps98;go_wp2_with fail;refine bodyPost_ret (v:=.tuple #[.string ⟨#[]⟩,.agg #[.int .i64 3,.int .i64 0]]) (by simp[results,results98,go_sem]) rfl ⟨rfl,(Below.refl _ _).alloc (Nat.le_refl _) _⟩
