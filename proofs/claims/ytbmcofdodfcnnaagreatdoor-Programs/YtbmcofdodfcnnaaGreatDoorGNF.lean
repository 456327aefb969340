import Derived.Test.YtbmcofdodfcnnaaGreatDoorGNA
import Derived.Test.YtbmcofdodfcnnaaGreatDoorGPM
import Derived.Test.YtbmcofdodfcnnaaGreatDoorGAG
set_option linter.all false
set_option maxHeartbeats 400000000
set_option maxRecDepth 100000
namespace Go.Proofs.YtbmcofdodfcnnaaGreatDoor
open Pn
open Go.Proofs.Tryz
open Go.RowKit Go.Maps
theorem PQ.size {b g cap mb:Nat} {ao:Option Addr} {l l':List Pn.Qt} {N:List (List UInt8×Nat)} {w:World} (j:Nat) (x:Pn.Qt) (v:Int) (h:PQ b g cap mb ao l N w) (hx:l[j]?=some x) (hl:l'.length=l.length) (hj:l'[j]?=some ⟨x.p,x.line,v⟩) (hk:∀k,k≠j->l'[k]?=l[k]?):
    PQ b g cap mb ao l' N (w.setCell ⟨g,j*9+8,none⟩ (.int .i64 v)):=by
 have hpos:=(a2e hx).1;have hbk:(w.setCell ⟨g,j*9+8,none⟩ (.int .i64 v)).heap[b]?=w.heap[b]?:=Below.heap_setCell _ _ _ _ (fun e=>h.ne e)
 have hmk:(w.setCell ⟨g,j*9+8,none⟩ (.int .i64 v)).heap[mb]?=w.heap[mb]?:=Below.heap_setCell _ _ _ _ (fun e=>h.mg hpos e)
 refine ⟨?_,(World.cell?_of_block (a:=⟨b,1,none⟩) hbk).trans h.c1,?_,fun q=>(World.frozen?_of_block (a:=⟨b,q,none⟩) hbk).trans (h.fb q),h.ne,h.nm.block hmk,fun _=>h.mg hpos,fun _=>h.ad hpos,fun _=>?_,fun _ q=>by rw[World.frozen?_setCell];exact h.fg hpos q,fun k y hky i u hu=>?_⟩
 ·rw[hl];exact (World.cell?_of_block (a:=⟨b,0,none⟩) hbk).trans h.c0
 ·simpa[World.setCell] using h.bl
 ·simpa[World.setCell] using h.gl hpos
 ·by_cases e:k=j
  ·subst e
   rw[hj]at hky;(cases hky);by_cases e8:i=8
   ·subst e8
    (have:u=.int .i64 v:=by simpa[Pn.qtC,a3j] using hu.symm);rw[this];exact World.cell?_setCell_same' _ _ _ (by rw[h.at' k _ hx 8 _ rfl];rfl)
   ·have hu':(Pn.qtC x)[i]?=some u:=by
     have hi9:i<9:=by
      have:=(List.getElem?_eq_some_iff.1 hu).1;simpa[Pn.qtC,a3j] using this
     rw[<-hu];(have:i=0\/i=1\/i=2\/i=3\/i=4\/i=5\/i=6\/i=7:=by omega);rcases this with rfl|rfl|rfl|rfl|rfl|rfl|rfl|rfl<;>rfl
    (rw[World.cell?_setCell_other _ _ _ _ (by intro e;injection e with _ e;omega)]);exact h.at' k _ hx i u hu'
  ·rw[hk k e]at hky
   have hi9:i<9:=by
    have:=(List.getElem?_eq_some_iff.1 hu).1;simpa[Pn.qtC,a3j] using this
   (rw[World.cell?_setCell_other _ _ _ _ (by intro e2;injection e2 with _ e2;omega)]);exact h.at' k y hky i u hu
theorem IA.kept {pa:Option Addr} {P:List Int} {base g:Nat} {w w':World} (h:IA pa P base w) (hk:Kept g w w') (hg:g<base):IA pa P base w':=
 ⟨fun j hj=>by
  obtain ⟨q,e,h1,h2,h3⟩:=h.at' j hj;have hb:=hk.block q h2 (by omega)
  exact ⟨q,e,h1,Nat.lt_of_lt_of_le h2 hk.size,(World.cell?_of_block (a:=⟨q,j,none⟩) hb).trans h3⟩⟩
theorem TgOk.grw {l:List Pn.Qt} {N:List (List UInt8×Nat)} (h:TgOk l N) (P:List Int) (j:Nat):TgOk (Pn.grw P N l j) N:=by
 intro x hx ht;obtain ⟨k,hk⟩:=List.getElem?_of_mem hx;have hkl:k<l.length:=by have:=(a2e hk).2;rwa[a4g]at this
 obtain ⟨y,hy⟩:∃y,l[k]?=some y:=⟨_,List.getElem?_eq_getElem hkl⟩;rw[a3x hy]at hk
 have e:x.p=y.p:=by
  injection hk with hk
  rw[<-hk]
  split<;>rfl
 rw[e]at ht ⊢;obtain ⟨h1,v,h2,h3⟩:=h y (List.mem_of_getElem? hy) ht;exact ⟨h1,v,h2,by rw[a4g];exact h3⟩
theorem c3r {P:List Int} {N:List (List UInt8×Nat)} {l:List Pn.Qt} {j:Nat} {x:Pn.Qt} (h:l[j]?=some x) (hm:a4r P N j x=true):(Pn.grw P N l (j+1))[j]?=some ⟨x.p,x.line,4⟩/\∀k,k≠j->(Pn.grw P N l (j+1))[k]?=(Pn.grw P N l j)[k]?:=by
 refine ⟨by rw[a3x h,if_pos ⟨by omega,hm⟩],fun k hk=>?_⟩
 cases hy:l[k]? with
 | none=>simp[Pn.grw,hy]
 | some y=>
  rw[a3x hy,a3x hy];have:k<j+1↔k<j:=by omega
  simp only[this]
theorem c0J (b g cap mb:Nat) (ao:Option Addr) (l:List Pn.Qt) (N:List (List UInt8×Nat)) (P:List Int) (pa:Option Addr) (base cp:Nat) (w:World) (h:PQ b g cap mb ao l N w) (hT:TgOk l N) (hn:l.length<=1000000)
    (hP:P.length=l.length+1) (hIA:IA pa P base w) (hgb:0<l.length->g<base) (hPb:∀j,0<=P.getD j 0/\P.getD j 0<=100000000):
    Calls prog 144 #[.pointer (some ⟨b,0,none⟩),.slice pa P.length cp] w fun e w'=>e=.returned (.bool (b4c P N l l.length))/\PQ b g cap mb ao (Pn.grw P N l l.length) N w'/\Kept g w w':=by
 have HP:=hid h;have HT:=hid hT;have HI:=hid hIA;have HPB:=hid hPb;have c0:=h.c0;have HLP:=hid hP;clear h hT hIA hPb hP;go_enter func144,ntmps144;go_wp2_with fail;clear c0;go_loopw [5,13] (fun a i wr=>∃j:Nat,j<=l.length/\a=.bool (b4c P N l j)/\i=.int .i64 j/\PQ b g cap mb ao (Pn.grw P N l j) N wr/\Kept g w wr) (fun _ i _=>l.length-(intOf i).toNat)
 case atStart=>exact ⟨0,Nat.zero_le _,rfl,rfl,by rw[c0V];exact HP.out,Kept.refl _ _⟩
 case round=>
  obtain ⟨j,hj,rfl,rfl,hQ,hK⟩:=hrel;by_cases hlt:j<l.length
  ·obtain ⟨x,hx⟩:∃x,l[j]?=some x:=⟨_,List.getElem?_eq_getElem hlt⟩
   (have hxj:(Pn.grw P N l j)[j]?=some x:=by rw[a3x hx,if_neg (fun h=>Nat.lt_irrefl _ h.1)]);have hposg:=(a2e hxj).1;obtain rfl:=hQ.ad hposg;have HX:=hid hx;(have HPL:=hid (fun W (hB:Below wr.heap.size wr W)=>b1y b g cap mb _ (Pn.grw P N l j) N j x P pa base cp W (hQ.next hB) hxj (HT.out.grw P j) (by rw[a4g];exact HLP.out) ((HI.out.kept hK (hgb (by omega))).next hB) HPB.out));have HAN:=hid (b1G P N l j hx);(have HGN:=hid (fun hm=>c4d (P:=P) (N:=N) hx hm));(have HGY:=hid (fun hm=>c3r (P:=P) (N:=N) hx hm));have HMG:Hid (a4r P N j x=(!x.p.tg.isEmpty&&(x.size==2)&&!((a0q (a6w P N j x.p)).2==0))):=hid rfl;(have HHS:=hid (fun W=>a8u (a6w P N j x.p) W));have HXJ:=hid hxj;generalize a6w P N j x.p=J at *;obtain ⟨jop,jrd,jrs1,jrs2,jimm⟩:=J;generalize a0q ⟨jop,jrd,jrs1,jrs2,jimm⟩=SJ at *;obtain ⟨sn,se⟩:=SJ;unfold Pn.Ins.val at HPL HHS;simp only at HPL HHS HMG;obtain ⟨⟨data,i,tg⟩,line,size⟩:=x;have gl:=hQ.gl hposg;have bl:=hQ.bl;have hfg:=hQ.fg hposg;(have cb:wr.cell? ⟨b,0,none⟩=some (.slice (some ⟨g,0,none⟩) l.length cap):=by have:=hQ.c0;rwa[a4g]at this);have p0:=hQ.at' j _ hxj 0 _ rfl;have p1:=hQ.at' j _ hxj 1 _ rfl;have p2:=hQ.at' j _ hxj 2 _ rfl;have p3:=hQ.at' j _ hxj 3 _ rfl;have p4:=hQ.at' j _ hxj 4 _ rfl;have p5:=hQ.at' j _ hxj 5 _ rfl;have p6:=hQ.at' j _ hxj 6 _ rfl;have p7:=hQ.at' j _ hxj 7 _ rfl;have p8:=hQ.at' j _ hxj 8 _ rfl;simp only[Nat.add_zero]at p0 p1 p2 p3 p4 p5 p6 p7 p8;(have hji:(j:Int)<l.length:=by omega);have HQj:=hid hQ;have HKj:=hid hK;clear hQ hK hx hxj;simp only at HMG;by_cases ht:tg=[]
   ·subst ht
    (have hm:a4r P N j ⟨⟨data,i,[]⟩,line,size⟩=false:=by rw[HMG.out];rfl);go_wp2_with fail;go_roundw;(case rel=>exact ⟨j+1,by omega,by rw[HAN.out,hm,Bool.or_false],by go_num,by rw[HGN.out hm];exact HQj.out.next ((Below.refl _ _).alloc (Nat.le_refl _) _),a16 HKj.out ((Below.refl _ _).alloc (Nat.le_refl _) _)⟩);case measure=>simp[intOf];omega
   ·have hte:=isE_not ht
    by_cases hs2:size=2
    ·subst hs2
     have HBA:Hid (Below wr.heap.size wr (wr.alloc (.cells #[.string ⟨data.toArray⟩,.int .i64 i.op,.int .i64 i.rd,.int .i64 i.rs1,.int .i64 i.rs2,.int .i64 i.imm,.string ⟨tg.toArray⟩,.int .i64 line,.int .i64 2] 202))):=hid ((Below.refl _ _).alloc (Nat.le_refl _) _);go_wp2_with fail;generalize wr.alloc _=W at *;refine (HPL.out _ HBA.out).mono ?_;rintro e w1 ⟨rfl,hB1⟩;have HB1:=hid (HBA.out.trans (hB1.mono HBA.out.size));clear hB1;go_wp2_with fail;refine (HHS.out _).mono ?_;rintro e w2 ⟨rfl,hB2⟩;have HB2:=hid (HB1.out.trans (hB2.mono HB1.out.size));have cb2:=(HB2.out.cell (p:=⟨b,0,none⟩) bl).trans cb;have q8:=(HB2.out.cell (p:=⟨g,j*9+8,none⟩) gl).trans p8;have f8:=(HB2.out.frozen (p:=⟨g,j*9+8,none⟩) gl).trans (hfg _);clear hB2 p0 p1 p2 p3 p4 p5 p6 p7 p8;by_cases hse:se=0
     ·subst hse
      (have hm:a4r P N j ⟨⟨data,i,tg⟩,line,2⟩=false:=by rw[HMG.out];simp);go_wp2_with fail;go_roundw;(case rel=>exact ⟨j+1,by omega,by rw[HAN.out,hm,Bool.or_false],by go_num,by rw[HGN.out hm];exact HQj.out.next HB2.out,a16 HKj.out HB2.out⟩);case measure=>simp[intOf];omega
     ·have hseb:(se==0)=false:=by simpa using hse
      (have hm:a4r P N j ⟨⟨data,i,tg⟩,line,2⟩=true:=by rw[HMG.out,hte,hseb];rfl);(have HQ2:=hid ((HQj.out.next HB2.out).size (l':=Pn.grw P N l (j+1)) j _ 4 HXJ.out (by rw[a4g,a4g]) (HGY.out hm).1 (HGY.out hm).2));have HK2:=hid ((a16 HKj.out HB2.out).trans (Kept.setCell g w2 (j*9+8) (.int .i64 4)));go_wp2_with fail;go_roundw;(case rel=>exact ⟨j+1,by omega,by rw[HAN.out,hm,Bool.or_true],by go_num,HQ2.out,HK2.out⟩);case measure=>simp[intOf];omega
    ·have hs2b:(size==2)=false:=by simpa using hs2
     (have hm:a4r P N j ⟨⟨data,i,tg⟩,line,size⟩=false:=by rw[HMG.out,hs2b];simp);go_wp2_with fail;go_roundw;(case rel=>exact ⟨j+1,by omega,by rw[HAN.out,hm,Bool.or_false],by go_num,by rw[HGN.out hm];exact HQj.out.next ((Below.refl _ _).alloc (Nat.le_refl _) _),a16 HKj.out ((Below.refl _ _).alloc (Nat.le_refl _) _)⟩);case measure=>simp[intOf];omega
  ·have hjn:j=l.length:=by omega
   subst hjn;go_wp2_with fail;go_ret;exact ⟨rfl,hQ,hK⟩
theorem TgOk.same {l l':List Pn.Qt} {N:List (List UInt8×Nat)} (h:TgOk l N) (hl:l'.length=l.length) (hs:∀(k:Nat) (x y:Pn.Qt),l'[k]?=some x->l[k]?=some y->x.p=y.p):TgOk l' N:=by
 intro x hx ht;obtain ⟨k,hk⟩:=List.getElem?_of_mem hx;obtain ⟨y,hy⟩:=a8M hl hk;rw[hs k x y hk hy]at ht ⊢;obtain ⟨h1,v,h2,h3⟩:=h y (List.mem_of_getElem? hy) ht;exact ⟨h1,v,h2,by rw[hl];exact h3⟩
theorem TgOk.fszs {l:List Pn.Qt} {N:List (List UInt8×Nat)} (h:TgOk l N) (short:Bool) (j:Nat):TgOk (Pn.fszs short l j) N:=
 h.same (a2Q _ _ _) fun k x y hx hy=>by
  rw[a4e hy]at hx;cases hx
  split<;>rfl
theorem TgOk.rnds {N:List (List UInt8×Nat)}:∀(m:Nat) {l:List Pn.Qt},TgOk l N->TgOk (Pn.rnds N m l) N
 | 0,_,h=>h
 | m+1,_,h=>TgOk.rnds m (h.grw _ _)
def c3O (n:Nat) (a:Value) (w:World):Nat:=match a with
 | .slice (some q) _ _=>(match w.cell? ⟨q.block,n,none⟩ with|some (.int _ x)=>100000000-x.toNat|_=>0)
 | _=>0
theorem b30 {n:Nat} {P:List Int} {pa:Option Addr} {base c1 c2:Nat} {w:World} (h:IA pa P base w) (hn:n<P.length):c3O n (.slice pa c1 c2) w=100000000-(P.getD n 0).toNat:=by
 obtain ⟨q,rfl,_,_,hc⟩:=h.at' n hn;simp only[c3O,hc]
theorem grw_none {P:List Int} {N:List (List UInt8×Nat)} {l:List Pn.Qt} {n:Nat} (ha:b4c P N l n=false) (hn:l.length=n):Pn.grw P N l n=l:=by
 subst hn;apply List.ext_getElem?;intro k
 cases hk:l[k]? with
 | none=>simp[Pn.grw,hk]
 | some x=>
  rw[a3x hk];have hkl:=(List.getElem?_eq_some_iff.1 hk).1
  have:a4r P N k x=false:=by
   unfold b4c at ha;rw[List.any_eq_false]at ha;(have:=ha k (by simpa using hkl));rw[hk]at this;simpa using this
  rw[this];simp
theorem b6c (b g cap mb:Nat) (ao:Option Addr) (l:List Pn.Qt) (N:List (List UInt8×Nat)) (short:Bool) (w:World) (h:PQ b g cap mb ao l N w) (hg0:g<w.heap.size) (hT:TgOk l N) (hn:l.length<=1000000) (hd:∀x∈l,x.p.data.length<=4):
    Calls prog 80 #[.pointer (some ⟨b,0,none⟩),.bool short] w fun e w'=>∃m pa cp,e=.returned (.slice pa (l.length+1) cp)/\IA pa (a3h (Pn.rnds N m (Pn.fszs short l l.length)) l.length) w.heap.size w'/\
     PQ b g cap mb ao (Pn.rnds N m (Pn.fszs short l l.length)) N w'/\Kept g w w'/\b4c (a3h (Pn.rnds N m (Pn.fszs short l l.length)) l.length) N (Pn.rnds N m (Pn.fszs short l l.length)) l.length=false:=by
 have HP:=hid h;have HT:=hid hT;have HD:=hid hd;have c0:=h.c0;clear h hT hd;go_enter func80,ntmps80;go_wp2_with fail;clear c0;go_loopw [12] (fun i wr=>∃j:Nat,j<=l.length/\i=.int .i64 j/\PQ b g cap mb ao (Pn.fszs short l j) N wr/\Kept g w wr) (fun i _=>l.length-(intOf i).toNat)
 case atStart=>exact ⟨0,Nat.zero_le _,rfl,by rw[b81];exact HP.out,Kept.refl _ _⟩
 case round=>
  obtain ⟨j,hj,rfl,hQ,hK⟩:=hrel;by_cases hlt:j<l.length
  ·obtain ⟨x,hx⟩:∃x,l[j]?=some x:=⟨_,List.getElem?_eq_getElem hlt⟩
   (have hxj:(Pn.fszs short l j)[j]?=some x:=by rw[a4e hx,if_neg (Nat.lt_irrefl j)]);have hpos:=(a2e hxj).1;obtain rfl:=hQ.ad hpos;have hfs:=fun w'=>b1k x short w'
   have HNX:Hid (∀W v,PQ b g cap mb (some ⟨g,0,none⟩) (Pn.fszs short l j) N W->v=Pn.fsz short x.p->PQ b g cap mb (some ⟨g,0,none⟩) (Pn.fszs short l (j+1)) N (W.setCell ⟨g,j*9+8,none⟩ (.int .i64 v))):=hid (fun W v hW hv=>by
    subst hv;refine hW.size j x _ hxj (by rw[a2Q,a2Q]) (by rw[a4e hx,if_pos (by omega)]) (fun k hk=>?_)
    cases hy:l[k]? with
    | none=>simp[Pn.fszs,hy]
    | some y=>
     rw[a4e hy,a4e hy];(have:k<j+1↔k<j:=by omega);simp only[this])
   generalize Pn.fsz short x.p=fz at *;obtain ⟨⟨data,i,tg⟩,line,size⟩:=x;have gl:=hQ.gl hpos;have bl:=hQ.bl;(have cb:wr.cell? ⟨b,0,none⟩=some (.slice (some ⟨g,0,none⟩) l.length cap):=by have:=hQ.c0;rwa[a2Q]at this);have p0:=hQ.at' j _ hxj 0 _ rfl;have p1:=hQ.at' j _ hxj 1 _ rfl;have p2:=hQ.at' j _ hxj 2 _ rfl;have p3:=hQ.at' j _ hxj 3 _ rfl;have p4:=hQ.at' j _ hxj 4 _ rfl;have p5:=hQ.at' j _ hxj 5 _ rfl;have p6:=hQ.at' j _ hxj 6 _ rfl;have p7:=hQ.at' j _ hxj 7 _ rfl;have p8:=hQ.at' j _ hxj 8 _ rfl;simp only[Nat.add_zero]at p0 p1 p2 p3 p4 p5 p6 p7 p8;have hfg:=hQ.fg hpos;(have hji:(j:Int)<l.length:=by omega);unfold Pn.qtC a3j at hfs;simp only[List.cons_append,List.nil_append]at hfs;have HFS:=hid hfs;have HPj:=hid hQ;have HKj:=hid hK;clear hQ hK hx hxj hfs;go_wp2_with fail;go_region_with (go_at_call 142;refine (HFS.out _).mono ?_;rintro e w' ⟨rfl,hB'⟩;have hcb:=(hB'.cell (p:=⟨b,0,none⟩) bl).trans (by go_simp:_=some (.slice (some ⟨g,0,none⟩) l.length cap));have hc8:=(hB'.cell (p:=⟨g,j*9+8,none⟩) gl).trans (by go_simp:_=some (.int .i64 size));have hf8:=(hB'.frozen (p:=⟨g,j*9+8,none⟩) gl).trans (by go_simp:_=false))
   all_goals
    have HP1:=hid (HNX.out _ fz ((HPj.out.next ((Below.refl _ _).drew)).next hB') rfl);have HK1:=hid ((a16 (a16 HKj.out ((Below.refl _ _).drew)) hB').near (j*9+8) (.int .i64 fz));clear hB' hcb hc8 hf8;go_wp2_with fail;go_roundw;(case rel=>exact ⟨j+1,by omega,by go_num,HP1.out,HK1.out⟩);case measure=>simp[intOf];omega
  ·have hjn:j=l.length:=by omega
   subst hjn;have HL0:=hid (a2Q short l l.length);have HS0:=hid (b8J (short:=short) HD.out);have HT0:=hid (HT.out.fszs short l.length);generalize hl0:Pn.fszs short l l.length=l0 at *;have HLZ:=hid hl0;clear hl0;have HPj:=hid hQ;have HKj:=hid hK;clear hQ hK
   have HPLS:=hid (fun m W (hW:PQ b g cap mb ao (Pn.rnds N m l0) N W)=>b5X b g cap mb ao (Pn.rnds N m l0) N W hW (by rw[a18,HL0.out];exact hn) (fun k hk=>by
    have:=a7W (a4b (N:=N) m HS0.out) k;rw[a18,HL0.out]at hk;omega))
   go_wp2_with fail;refine (HPLS.out 0 wr HPj.out).mono ?_;rintro e w2 ⟨v,rfl,hown,hB2⟩;have HO:=hid hown;have HP2:=hid (HPj.out.next hB2);have HK2:=hid (a16 HKj.out hB2);clear hown hB2
   have HGR:=hid (fun m pa cp W (hW:PQ b g cap mb ao (Pn.rnds N m l0) N W) (hI:IA pa (a3h (Pn.rnds N m l0) l.length) w.heap.size W)=>by
    (have hlen:(Pn.rnds N m l0).length=l.length:=by rw[a18,HL0.out]);have hb:=a7W (a4b (N:=N) m HS0.out)
    have:=c0J b g cap mb ao (Pn.rnds N m l0) N (a3h (Pn.rnds N m l0) l.length) pa w.heap.size cp W hW (HT0.out.rnds m) (by rw[hlen];exact hn) (by rw[a1w,hlen]) hI (fun _=>hg0) (fun j=>by
     rcases Nat.lt_or_ge l.length j with hj|hj
     ·rw[List.getD_eq_getElem?_getD,List.getElem?_eq_none (by rw[a1w];omega)];simp
     ·rw[a4F _ _ _ hj]
      have:=hb j;omega)
    rw[a1w,hlen]at this;exact this)
   have HO':Hid (w2.ownsRow w.heap.size 3 1 v (a3h l0 l.length).length (b6z (a3h l0 l.length))):=hid (by
    have:=a52 HO.out HKj.out.size;rw[a18,HL0.out]at this;exact this)
   obtain ⟨pa,cp,rfl,hIA⟩:=a4h HO'.out;rw[a1w];have HIA:=hid hIA;clear hIA HO HO';go_wp2_with fail;(go_loopw [6] (fun a wx=>∃m pa cp,a=.slice pa (l.length+1) cp/\IA pa (a3h (Pn.rnds N m l0) l.length) w.heap.size wx/\PQ b g cap mb ao (Pn.rnds N m l0) N wx/\Kept g w wx) (fun a wx=>c3O l.length a wx));case atStart=>exact ⟨0,_,_,rfl,HIA.out,HP2.out,HK2.out⟩
   case round=>
    obtain ⟨m,pa,cp,rfl,hI,hQ,hK⟩:=hrel;have HI:=hid hI;have HQ:=hid hQ;have HK:=hid hK;(have HLM:Hid ((Pn.rnds N m l0).length=l.length):=hid (by rw[a18,HL0.out]));have HSM:=hid (a4b (N:=N) m HS0.out)
    have HRS:Hid (Pn.rnds N (m+1) l0=Pn.grw (a3h (Pn.rnds N m l0) l.length) N (Pn.rnds N m l0) l.length):=hid (by
     rw[a6c];unfold Pn.rnd;rw[HLM.out])
    (have HL1:=hid (b30 (n:=l.length) (c1:=l.length+1) (c2:=cp) hI (by rw[a1w];omega)));clear hI hQ hK;go_wp2_with fail;refine (HGR.out m pa cp wr HQ.out HI.out).mono ?_;rintro e w3 ⟨rfl,hQ3,hK3⟩;have HK3:=hid (HK.out.trans hK3);by_cases hany:b4c (a3h (Pn.rnds N m l0) l.length) N (Pn.rnds N m l0) l.length=true
    ·rw[hany]
     (have hQ3':PQ b g cap mb ao (Pn.rnds N (m+1) l0) N w3:=by rw[HRS.out];exact hQ3);have HQ3:=hid hQ3';have HANY:=hid hany;clear hQ3 hQ3' hK3 hany;go_wp2_with fail;refine (HPLS.out (m+1) w3 HQ3.out).mono ?_;rintro e w4 ⟨v4,rfl,hown4,hB4⟩
     have hO4:w4.ownsRow w.heap.size 3 1 v4 (a3h (Pn.rnds N (m+1) l0) l.length).length (b6z (a3h (Pn.rnds N (m+1) l0) l.length)):=by
      have:=a52 hown4 HK3.out.size;rw[a18,HL0.out]at this;exact this
     obtain ⟨pa4,cp4,rfl,hIA4⟩:=a4h hO4;rw[a1w];have HIA4:=hid hIA4;have HQ4:=hid (HQ3.out.next hB4);have HK4:=hid (a16 HK3.out hB4);clear hown4 hB4 hO4 hIA4;go_wp2_with fail;go_roundw;case rel=>exact ⟨m+1,pa4,cp4,rfl,HIA4.out,HQ4.out,HK4.out⟩
     case measure=>
      (have e1:=b30 (n:=l.length) (c1:=l.length+1) (c2:=cp4) HIA4.out (by rw[a1w];omega));have hm:=b4x (P:=a3h (Pn.rnds N m l0) l.length) (N:=N) HSM.out l.length (Nat.le_of_eq HLM.out.symm) HANY.out;have b1:=a7W (a4b (N:=N) (m+1) HS0.out) l.length;have b0:=a7W HSM.out l.length;rw[HLM.out]at hm;rw[<-HRS.out]at hm;rw[e1,HL1.out,a4F _ _ _ (Nat.le_refl _),a4F _ _ _ (Nat.le_refl _)];omega
    ·have hany':b4c (a3h (Pn.rnds N m l0) l.length) N (Pn.rnds N m l0) l.length=false:=by simpa using hany
     rw[hany']
     have hQ3':PQ b g cap mb ao (Pn.rnds N m l0) N w3:=by
      rw[grw_none hany' HLM.out]at hQ3;exact hQ3
     have HQ3:=hid hQ3';have HANY:=hid hany';have HI3:=hid (HI.out.kept hK3 hg0);clear hQ3 hQ3' hK3 hany hany';go_wp2_with fail;go_ret;rw[HLZ.out];exact ⟨m,pa,cp,rfl,HI3.out,HQ3.out,HK3.out,HANY.out⟩
end Go.Proofs.YtbmcofdodfcnnaaGreatDoor
namespace Pn
open Go
def a8X (P:List Int) (N:List (List UInt8×Nat)) (l:List Qt) (k:Nat):Bool:=match l[k]? with|some x=>(byq P N k x).isNone|none=>false
def b5Z (P:List Int) (N:List (List UInt8×Nat)) (l:List Qt):List UInt8×Int×Int:=
 match (List.range l.length).find? (a8X P N l) with
 | some k=>([],5,match l[k]? with|some x=>x.line|none=>0)
 | none=>(b3E P N l l.length,0,0)
theorem b7K (P:List Int) (N:List (List UInt8×Nat)) (k:Nat) (x:Qt):byq P N k x=if (byI x (a6w P N k x.p)).2=0 then some (byI x (a6w P N k x.p)).1 else none:=by
 unfold byq byI;by_cases hd:x.p.data=[]
 ·simp only[hd,if_true]
  by_cases h2:x.size=2
  ·simp only[h2,if_true]
   by_cases he:(a0q (a6w P N k x.p)).2=0<;>simp[he]
  ·simp only[h2,if_false]
   by_cases he:(enc (a6w P N k x.p)).2=0<;>simp[he]
 ·simp only[hd,if_false,if_true]
theorem b6D (x:Qt) (j:Ins) (h:x.p.data.length<=4):(byI x j).1.length<=4:=by
 unfold byI
 repeat' split
 all_goals simp only[a2d,List.length_nil]
 all_goals omega
theorem c2f (P:List Int) (N:List (List UInt8×Nat)) (l:List Qt) (h:∀x∈l,x.p.data.length<=4) (j:Nat):(b3E P N l j).length<=4*j:=by
 induction j with
 | zero=>simp[b3E]
 | succ j ih=>
  simp only[b3E,List.length_append]
  cases hj:l[j]? with
  | none=>simp;omega
  | some x=>
   have:((byq P N j x).getD []).length<=4:=by
    rw[b7K];have:=b6D x (a6w P N j x.p) (h x (b4f hj))
    split<;>simp<;>omega
   simp only;omega
end Pn
namespace Go.Proofs.YtbmcofdodfcnnaaGreatDoor
open Pn
open Go.Proofs.Tryz
open Go.RowKit Go.Maps
structure BT (w0:World) (b g cap mb:Nat) (ao:Option Addr) (l:List Pn.Qt) (N:List (List UInt8×Nat)) (P:List Int) (pa:Option Addr) (base:Nat) (bs:List UInt8) (w:World):Prop where
 p:PQ b g cap mb ao l N w
 f:CellsAt w0.heap.size [.int .i64 0,.int .i64 0] w
 d:Lib.IsBuilder 134 5 (w0.heap.size+1) (w0.heap.size+1) (Lib.byteCells bs) w
 b:Below w0.heap.size w0 w
 i:IA pa P base w
theorem BT.next {w0:World} {b g cap mb:Nat} {ao:Option Addr} {l:List Pn.Qt} {N:List (List UInt8×Nat)} {P:List Int} {pa:Option Addr} {base:Nat} {bs:List UInt8} {w w':World} (h:BT w0 b g cap mb ao l N P pa base bs w) (hB:Below w.heap.size w w'):BT w0 b g cap mb ao l N P pa base bs w':=
 ⟨h.p.next hB,h.f.next hB,b2I h.d hB,h.b.trans (hB.mono h.b.size),h.i.next hB⟩
theorem IA.step {pa:Option Addr} {P:List Int} {base B:Nat} {w w':World} (h:IA pa P base w) (hB:Below B w w') (hlt:∀j,j<P.length->∀q,pa=some ⟨q,0,none⟩->q<B):IA pa P base w':=
 ⟨fun j hj=>by
  obtain ⟨q,e,h1,h2,h3⟩:=h.at' j hj;exact ⟨q,e,h1,Nat.lt_of_lt_of_le h2 hB.size,(hB.cell (p:=⟨q,j,none⟩) (hlt j hj q e)).trans h3⟩⟩
theorem BT.more {w0:World} {b g cap mb:Nat} {ao:Option Addr} {l:List Pn.Qt} {N:List (List UInt8×Nat)} {P:List Int} {pa:Option Addr} {base:Nat} {bs ys:List UInt8} {w w':World} (h0:PQ b g cap mb ao l N w0) (hi0:IA pa P base w0) (h:BT w0 b g cap mb ao l N P pa base bs w)
    (hw:Lib.BuilderAt 134 5 (w0.heap.size+1) (w0.heap.size+1) (.pointer (some ⟨w0.heap.size+1,0,none⟩)) (Lib.byteCells bs++Lib.strCells ⟨ys.toArray⟩) w') (hB:Below (w0.heap.size+1) w w'):BT w0 b g cap mb ao l N P pa base (bs++ys) w':=by
 have hb:=h0.bl;have hm:=h0.nm.lt;refine ⟨h.p.step hB (by omega) (fun p=>by have:=h0.gl p;omega) (by omega),h.f.step hB (by omega),.inr ?_,h.b.trans (hB.mono (by omega)),h.i.step hB (fun j hj q e=>?_)⟩
 ·have e:Lib.byteCells (bs++ys)=Lib.byteCells bs++Lib.strCells ⟨ys.toArray⟩:=by
   rw[b2H];simp[Lib.byteCells]
  rw[e];exact hw
 ·obtain ⟨q',e',_,h2,_⟩:=hi0.at' j hj
  rw[e]at e';cases e'
  omega
theorem a6u {p:Nat->Bool} {n k:Nat} (hk:k<n) (hno:∀j,j<k->p j=false) (h:p k=true):(List.range n).find? p=some k:=a2u p n k hk hno h
theorem b5D (b g cap mb:Nat) (ao:Option Addr) (l:List Pn.Qt) (N:List (List UInt8×Nat)) (P:List Int) (pa:Option Addr) (base cp:Nat) (w:World) (h:PQ b g cap mb ao l N w) (hT:TgOk l N) (hn:l.length<=1000000)
    (hP:P.length=l.length+1) (hIA:IA pa P base w) (hPb:∀j,0<=P.getD j 0/\P.getD j 0<=100000000) (hd:∀x∈l,x.p.data.length<=4) (hsz:∀x∈l,x.p.data=[]->x.size=2\/x.size=4):
    Calls prog 81 #[.pointer (some ⟨b,0,none⟩),.slice pa P.length cp] w fun e w'=>e=.returned (.tuple #[.string ⟨(b5Z P N l).1.toArray⟩,.agg #[.int .i64 (b5Z P N l).2.1,.int .i64 (b5Z P N l).2.2]])/\Below w.heap.size w w':=by
 have HP:=hid h;have HT:=hid hT;have HI:=hid hIA;have HPB:=hid hPb;have HLP:=hid hP;have HD:=hid hd;have HSZ:=hid hsz;have c0:=h.c0;have bl:=h.bl;clear h hT hIA hPb hP hd hsz;go_enter func81,ntmps81;go_wp2_with fail;clear c0;go_loopw [16] (fun i wr=>∃j:Nat,j<=l.length/\i=.int .i64 j/\(∀k,k<j->a8X P N l k=false)/\BT w b g cap mb ao l N P pa base (b3E P N l j) wr) (fun i _=>l.length-(intOf i).toNat)
 case atStart=>
  refine ⟨0,Nat.zero_le _,rfl,fun k hk=>by omega,HP.out.next ?_,(CellsAt.new w [.int .i64 0,.int .i64 0] 39).alloc _,.inl ⟨Nat.le_refl _,.slice none 0 0,?_,World.ownsRow_nil _ _ _ _,by simp[Value.ownBlock]⟩,?_,HI.out.next ?_⟩
  ·exact ((Below.refl _ _).alloc (Nat.le_refl _) _).alloc (by rw[World.size_alloc];omega) _
  ·have:=heap_alloc_last (w.alloc (.cells #[.int .i64 0,.int .i64 0] 39)) (.cells #[.pointer none,.slice none 0 0] 134)
   rw[World.size_alloc]at this;exact this
  ·exact ((Below.refl _ _).alloc (Nat.le_refl _) _).alloc (by rw[World.size_alloc];omega) _
  ·exact ((Below.refl _ _).alloc (Nat.le_refl _) _).alloc (by rw[World.size_alloc];omega) _
 case round=>
  obtain ⟨j,hj,rfl,hbad,hS⟩:=hrel;by_cases hlt:j<l.length
  ·obtain ⟨x,hx⟩:∃x,l[j]?=some x:=⟨_,List.getElem?_eq_getElem hlt⟩
   have hpos:=(a2e hx).1;obtain rfl:=hS.p.ad hpos;have gl:=hS.p.gl hpos;have HX:=hid hx;(have HPL:=hid (fun W (hB:Below wr.heap.size wr W)=>b1y b g cap mb _ l N j x P pa base cp W (hS.p.next hB) hx HT.out HLP.out (hS.i.next hB) HPB.out));(have HPB2:=hid (fun W=>b1R x (a6w P N j x.p) W (HSZ.out x (List.mem_of_getElem? hx))));have HBL:=hid (b6D x (a6w P N j x.p) (HD.out x (List.mem_of_getElem? hx)));have HBQ:=hid (b7K P N j x);(have HBA:Hid (a8X P N l j=(Pn.byq P N j x).isNone):=hid (by simp only[a8X,hx]));(have HBS:Hid (b3E P N l (j+1)=b3E P N l j++(Pn.byq P N j x).getD []):=hid (by simp only[b3E,hx]));have HLN:=hid (c2f P N l HD.out j);have HBD:=hid hbad;generalize Pn.byI x (a6w P N j x.p)=BI at *;obtain ⟨bi,be⟩:=BI;generalize a6w P N j x.p=J at *;obtain ⟨jop,jrd,jrs1,jrs2,jimm⟩:=J;obtain ⟨⟨data,i,tg⟩,line,size⟩:=x;have p0:=hS.p.at' j _ hx 0 _ rfl;have p1:=hS.p.at' j _ hx 1 _ rfl;have p2:=hS.p.at' j _ hx 2 _ rfl;have p3:=hS.p.at' j _ hx 3 _ rfl;have p4:=hS.p.at' j _ hx 4 _ rfl;have p5:=hS.p.at' j _ hx 5 _ rfl;have p6:=hS.p.at' j _ hx 6 _ rfl;have p7:=hS.p.at' j _ hx 7 _ rfl;have p8:=hS.p.at' j _ hx 8 _ rfl;simp only[Nat.add_zero]at p0 p1 p2 p3 p4 p5 p6 p7 p8;(have hji:(j:Int)<l.length:=by omega);unfold Pn.Ins.val at HPL HPB2;unfold Pn.qtC a3j at HPB2;simp only[List.cons_append,List.nil_append]at HPB2 HPL HBL HBQ;have HS:=hid hS;clear hS hx hbad;go_wp2_with fail;have HW0:Hid (Below wr.heap.size wr (wr.alloc (.cells #[.string ⟨data.toArray⟩,.int .i64 i.op,.int .i64 i.rd,.int .i64 i.rs1,.int .i64 i.rs2,.int .i64 i.imm,.string ⟨tg.toArray⟩,.int .i64 line,.int .i64 size] 202))):=hid ((Below.refl _ _).alloc (Nat.le_refl _) _);have hcp:=CellsAt.new wr [.string ⟨data.toArray⟩,.int .i64 i.op,.int .i64 i.rd,.int .i64 i.rs1,.int .i64 i.rs2,.int .i64 i.imm,.string ⟨tg.toArray⟩,.int .i64 line,.int .i64 size] 202;have HCP:=hid hcp;have k0:=cell_regrown (hcp.2.2 0 _ rfl);have k1:=cell_regrown (hcp.2.2 1 _ rfl);have k2:=cell_regrown (hcp.2.2 2 _ rfl);have k3:=cell_regrown (hcp.2.2 3 _ rfl);have k4:=cell_regrown (hcp.2.2 4 _ rfl);have k5:=cell_regrown (hcp.2.2 5 _ rfl);have k6:=cell_regrown (hcp.2.2 6 _ rfl);have k7:=cell_regrown (hcp.2.2 7 _ rfl);have k8:=cell_regrown (hcp.2.2 8 _ rfl);clear hcp p0 p1 p2 p3 p4 p5 p6 p7 p8 gl;generalize wr.alloc _=W at HW0 HCP k0 k1 k2 k3 k4 k5 k6 k7 k8 ⊢;refine wp_region_quiet_below (by kernel_rfl) (by kernel_rfl) ?_
   repeat (quiet_step (first
    | (go_at_call 146;exact Calls.regrown_of (HPL.out _ (HW0.out.trans ((below_regrown _ _ _).mono HW0.out.size))))
    | (go_at_call 145;exact Calls.regrown_of (HPB2.out _))))
   refine wpQuiet_nil ?_;intro _ hw';obtain ⟨⟨dq,osq⟩,hw''⟩:=hw';subst hw'';have HS3:=hid (HS.out.next (HW0.out.trans ((below_regrown W dq osq).mono HW0.out.size)));have HC3:=hid (HCP.out.next (below_regrown W dq osq));have hwr:wr.heap.size<(Go.Sort.grow (redrawn W dq) osq).heap.size:=HC3.out.1;clear k0 k1 k2 k3 k4 k5 k6 k7 k8 HPB2 HPL HS HCP HW0;simp only at *;generalize Go.Sort.grow (redrawn W dq) osq=W3 at *;by_cases hbe:be=0
   ·subst hbe
    have HBQ:Hid (Pn.byq P N j ⟨⟨data,i,tg⟩,line,size⟩=some bi):=hid (by rw[HBQ.out];simp)
    have HBJ:Hid (∀k,k<j+1->a8X P N l k=false):=hid (fun k hk=>by
     rcases Nat.lt_or_ge k j with h|h
     ·exact HBD.out k h
     ·have:k=j:=by omega
      subst this;rw[HBA.out,HBQ.out];rfl)
    go_wp2_with fail;(refine (a83 (w.heap.size+1) (w.heap.size+1) (Lib.byteCells (b3E P N l j)) ⟨bi.toArray⟩ _ HS3.out.d (by have h1:=HLN.out;have h2:=HBL.out;simp[Lib.byteCells,ByteArray.size];omega) (by have:=HS3.out.f.1;omega)).mono ?_);rintro e w5 ⟨rfl,hbd,hB5⟩;have HS5:=hid (BT.more HP.out HI.out HS3.out hbd hB5);clear hbd hB5;go_wp2_with fail;go_roundw;(case rel=>exact ⟨j+1,by omega,by go_num,HBJ.out,by rw[HBS.out,HBQ.out];exact HS5.out⟩);case measure=>simp[intOf];omega
   ·have hbb:(be==0)=false:=by simpa using hbe
    have hbn:(be != 0)=true:=by simpa using hbe
    have HV:Hid (b5Z P N l=([],5,line)):=hid (by
     unfold b5Z;(rw[a6u hlt HBD.out (by rw[HBA.out,HBQ.out,if_neg hbe];rfl)]);simp only[HX.out])
    have c7:=HC3.out.2.2 7 _ rfl;have f0:=HS3.out.f.2.2 0 _ rfl;have f1:=HS3.out.f.2.2 1 _ rfl;have ff:=HS3.out.f.2.1;have HB3:=hid HS3.out.b;clear HBQ HBA HBS;go_wp2_with fail;go_region
    all_goals
     go_wp2_with fail;(refine bodyPost_ret (v:=.tuple #[.string ⟨#[]⟩,.agg #[.int .i64 5,.int .i64 line]]) (by simp[results,results81,go_sem,f0,f1]) rfl ⟨by rw[HV.out],?_⟩);exact ((HB3.out.setCell (Nat.le_refl _) _).setCell (Nat.le_refl _) _).drew
  ·have hjn:j=l.length:=by omega
   subst hjn
   have HV:Hid (b5Z P N l=(b3E P N l l.length,0,0)):=hid (by
    unfold b5Z;rw[a1I _ l.length hbad])
   have HS:=hid hS;have f0:=hS.f.2.2 0 _ rfl;have f1:=hS.f.2.2 1 _ rfl;clear hS;go_wp2_with fail;(refine (Tryz.Builder_String_any (w.heap.size+1) (w.heap.size+1) (b3E P N l l.length) _ HS.out.d (by have:=HS.out.f.1;omega)).mono ?_);rintro e w2 ⟨rfl,hB2⟩;(have q0:=(HS.out.f.step hB2 (by omega)).2.2 0 _ rfl);(have q1:=(HS.out.f.step hB2 (by omega)).2.2 1 _ rfl);(have qf:=(HS.out.f.step hB2 (by omega)).2.1);(have HB2:=hid (HS.out.b.trans (hB2.mono (by omega))));clear hB2;go_wp2_with fail;(refine bodyPost_ret (v:=.tuple #[.string ⟨(b3E P N l l.length).toArray⟩,.agg #[.int .i64 0,.int .i64 0]]) (by simp[results,results81,go_sem,q0,q1]) rfl ⟨by rw[HV.out],?_⟩);exact (HB2.out.setCell (Nat.le_refl _) _).setCell (Nat.le_refl _) _
