import Derived.Test.YtbmcofdodfcnnaaGreatDoorGNJ
import Derived.Test.YtbmcofdodfcnnaaGreatDoorGNF
set_option linter.all false
set_option maxHeartbeats 400000000
set_option maxRecDepth 100000
namespace Pn
open Go
def done (N:List (List UInt8×Nat)) (l:List Qt):Prop:=b4c (a3h l l.length) N l l.length=false
theorem c0N {N:List (List UInt8×Nat)} {l:List Qt} (h:done N l):rnd N l=l:=Go.Proofs.YtbmcofdodfcnnaaGreatDoor.grw_none h rfl
theorem a5U {N:List (List UInt8×Nat)} {l:List Qt} {m:Nat} (h:done N (rnds N m l)):∀k,rnds N (m+k) l=rnds N m l
 | 0=>rfl
 | k+1=>by rw[<-Nat.add_assoc,a6c,a5U h k,c0N h]
def b4G (N:List (List UInt8×Nat)) (l:List Qt):List Qt:=rnds N (4*l.length+1) l
theorem b08 {N:List (List UInt8×Nat)} {l:List Qt} (hs:b3f l):∀m,(∀k,k<m->¬done N (rnds N k l))->(m:Int)<=plq (rnds N m l) l.length
 | 0,_=>(a7W hs _).1
 | m+1,h=>by
  have ih:=b08 hs m (fun k hk=>h k (by omega))
  have hm:=h m (by omega)
  have hlen:=a18 N m l;unfold done at hm;rw[hlen]at hm;have:=b4x (P:=a3h (rnds N m l) l.length) (N:=N) (a4b (N:=N) m hs) l.length (Nat.le_of_eq hlen.symm) (by simpa using hm)
  rw[hlen]at this
  have e:rnds N (m+1) l=grw (a3h (rnds N m l) l.length) N (rnds N m l) l.length:=by
   rw[a6c];unfold rnd;rw[hlen]
  rw[e];omega
theorem b8N {N:List (List UInt8×Nat)} {l:List Qt} (hs:b3f l):∃m,m<=4*l.length/\done N (rnds N m l):=by
 apply Classical.byContradiction;intro hn;have h:=b08 (N:=N) hs (4*l.length+1) (fun k hk hd=>hn ⟨k,by omega,hd⟩)
 have:=(a7W (a4b (N:=N) (4*l.length+1) hs) l.length).2;omega
theorem c2p {N:List (List UInt8×Nat)} {l:List Qt} (hs:b3f l):done N (b4G N l):=by
 obtain ⟨m,hm,hd⟩:=b8N (N:=N) hs;have:=a5U hd (4*l.length+1-m);rw[show m+(4*l.length+1-m)=4*l.length+1 by omega]at this
 unfold b4G;rw[this];exact hd
theorem c2N {N:List (List UInt8×Nat)} {l:List Qt} {m:Nat} (hs:b3f l) (hd:done N (rnds N m l)):rnds N m l=b4G N l:=by
 rcases Nat.le_total m (4*l.length+1) with h|h
 ·have:=a5U hd (4*l.length+1-m)
  rw[show m+(4*l.length+1-m)=4*l.length+1 by omega]at this
  exact this.symm
 ·have:=a5U (c2p (N:=N) hs) (m-(4*l.length+1))
  rw[show 4*l.length+1+(m-(4*l.length+1))=m by omega]at this
  exact this
def SzI (l:List Qt):Prop:=∀x∈l,x.p.data=[]->x.size=2\/x.size=4
theorem c60 (short:Bool) (l:List Qt):SzI (fszs short l l.length):=fun x hx hd=>by
 obtain ⟨k,hk⟩:=List.getElem?_of_mem hx;obtain ⟨y,hy⟩:=a8M (a2Q short l l.length) hk;rw[a4e hy,if_pos (List.getElem?_eq_some_iff.1 hy).1]at hk;cases hk
 simp only at hd ⊢;unfold fsz;rw[if_pos hd]
 split
 ·exact .inl rfl
 ·exact .inr rfl
theorem c9C {P:List Int} {N:List (List UInt8×Nat)} {l:List Qt} {j:Nat} (h:SzI l):SzI (grw P N l j):=fun x hx hd=>by
 obtain ⟨k,hk⟩:=List.getElem?_of_mem hx;obtain ⟨y,hy⟩:=a8M (a4g P N l j) hk;rw[a3x hy]at hk;cases hk
 split
 ·exact .inr rfl
 ·rename_i hc
  rw[if_neg hc]at hd;exact h y (b4f hy) hd
theorem c2u {N:List (List UInt8×Nat)}:∀(m:Nat) {l:List Qt},SzI l->SzI (rnds N m l)
 | 0,_,h=>h
 | m+1,_,h=>c2u m (c9C h)
theorem c2z {N:List (List UInt8×Nat)}:∀(m:Nat) {l:List Qt} (k:Nat) (x y:Qt),(rnds N m l)[k]?=some x->l[k]?=some y->x.p=y.p/\x.line=y.line
 | 0,_,_,x,y,hx,hy=>by
  have:x=y:=Option.some.inj (hx.symm.trans hy);rw[this];exact ⟨rfl,rfl⟩
 | m+1,l,k,x,y,hx,hy=>by
  have hg:(rnd N l)[k]?=some (if k<l.length/\a4r (a3h l l.length) N k y=true then ⟨y.p,y.line,4⟩ else y):=a3x hy;have:=c2z m k x _ hx hg;rw[this.1,this.2]
  split<;>exact ⟨rfl,rfl⟩
theorem c65 {short:Bool} {l:List Qt} {j k:Nat} {x y:Qt} (hx:(fszs short l j)[k]?=some x) (hy:l[k]?=some y):x.p=y.p/\x.line=y.line:=by
 rw[a4e hy]at hx;cases hx
 split<;>exact ⟨rfl,rfl⟩
def c3c (ss:List (List UInt8)) (short:Bool):List UInt8×Int×Int:=
 if (rdP ss).1=0 then
  (if 1024<plq (b4G (rdP ss).2.2.2 (fszs short (rdP ss).2.2.1 (rdP ss).2.2.1.length)) (rdP ss).2.2.1.length then ([],8,0)
   else b5Z (a3h (b4G (rdP ss).2.2.2 (fszs short (rdP ss).2.2.1 (rdP ss).2.2.1.length)) (rdP ss).2.2.1.length) (rdP ss).2.2.2 (b4G (rdP ss).2.2.2 (fszs short (rdP ss).2.2.1 (rdP ss).2.2.1.length)))
 else ([],(rdP ss).1,(rdP ss).2.1)
theorem a9y {N:List (List UInt8×Nat)} {t:List UInt8} {v:Nat} (h:N.lookup t=some v):(t,v)∈N:=by
 induction N with
 | nil=>cases h
 | cons p N ih=>
  obtain ⟨a,b⟩:=p;simp only[List.lookup]at h
  split at h
  ·rename_i hb
   (have e:t=a:=by simpa using hb);(cases h);rw[e];exact List.mem_cons_self ..
  ·exact List.mem_cons_of_mem _ (ih h)
theorem c6O (ss:List (List UInt8)):(rdP ss).1=0->c5k ss.length (rdP ss).2.2.1 (rdP ss).2.2.2/\Go.Proofs.YtbmcofdodfcnnaaGreatDoor.TgOk (rdP ss).2.2.1 (rdP ss).2.2.2:=by
 intro h0;unfold rdP at h0 ⊢
 split at h0
 ·rename_i j hj
  have:=List.find?_some hj;simp only at h0;rw[h0]at this;simp at this
 ·rename_i hj
  split at h0
  ·simp at h0
  ·rename_i hk
   simp only;have hok:=a7F ss ss.length;(refine ⟨hok,fun x hx ht=>?_⟩);(refine ⟨by have:=(hok.pt x hx).2.1;omega,?_⟩);obtain ⟨k,hxk⟩:=List.getElem?_of_mem hx;have hkl:=(List.getElem?_eq_some_iff.1 hxk).1;(have hn:=List.find?_eq_none.1 hk k (by simpa using hkl));simp only[b27,hxk]at hn;have hte:=Go.Proofs.YtbmcofdodfcnnaaGreatDoor.isE_not ht;rw[hte]at hn
   cases hl:(a1G ss ss.length).2.lookup x.p.tg with
   | none=>rw[hl]at hn;simp at hn
   | some v=>exact ⟨v,rfl,hok.at' _ (a9y hl)⟩
end Pn
namespace Go.Proofs.YtbmcofdodfcnnaaGreatDoor
open Pn
open Go.Proofs.Tryz
open Go.RowKit Go.Maps
theorem c4q {N:List (List UInt8×Nat)} {l:List Pn.Qt} (m:Nat) (h:∀x∈l,x.p.data.length<=4):∀x∈Pn.rnds N m l,x.p.data.length<=4:=fun x hx=>by
 obtain ⟨k,hk⟩:=List.getElem?_of_mem hx;obtain ⟨y,hy⟩:=a8M (a18 N m l) hk;rw[(c2z m k x y hk hy).1];exact h y (List.mem_of_getElem? hy)
theorem c7E {short:Bool} {l:List Pn.Qt} (h:∀x∈l,x.p.data.length<=4):∀x∈Pn.fszs short l l.length,x.p.data.length<=4:=fun x hx=>by
 obtain ⟨k,hk⟩:=List.getElem?_of_mem hx;obtain ⟨y,hy⟩:=a8M (a2Q short l l.length) hk;rw[(c65 hk hy).1];exact h y (List.mem_of_getElem? hy)
theorem c1O {w w1:World} {ao:Option Addr} {cp mb:Nat} {l:List Pn.Qt} {N:List (List UInt8×Nat)} (o:Obj) (hmb:w.heap.size<=mb) (hN:a8W mb N w1) (ho:w1.ownsRow w.heap.size 202 9 (.slice ao l.length cp) l.length (l.flatMap Pn.qtC)) (hne:(Value.slice ao l.length cp).ownBlock≠some mb):
    ∃g,g<w1.heap.size/\w.heap.size<=g/\PQ w1.heap.size g cp mb ao l N ((w1.alloc (.cells #[.slice ao l.length cp,.map (some mb)] 148)).alloc o):=by
 have hc:=(CellsAt.new w1 [.slice ao l.length cp,.map (some mb)] 148).alloc o;have hB:Below w1.heap.size w1 ((w1.alloc (.cells #[.slice ao l.length cp,.map (some mb)] 148)).alloc o):=((Below.refl _ _).alloc (Nat.le_refl _) _).alloc (by rw[World.size_alloc];omega) _
 have hml:=hN.lt;rcases Nat.eq_zero_or_pos l.length with hz|hp
 ·refine ⟨mb,hml,hmb,hc.2.2 0 _ rfl,hc.2.2 1 _ rfl,hc.1,hc.2.1,by omega,hN.next hB,fun h=>by omega,fun h=>by omega,fun h=>by omega,fun h=>by omega,fun k x hk=>?_⟩
  have:=(a2e hk).1;omega
 ·obtain ⟨g,rfl,h1,h2,h3,h4⟩:=b7p ho hp
  refine ⟨g,h2,h1,hc.2.2 0 _ rfl,hc.2.2 1 _ rfl,hc.1,hc.2.1,by omega,hN.next hB,fun _ e=>hne (by rw[e];rfl),fun _=>rfl,fun _=>Nat.lt_of_lt_of_le h2 hB.size,fun _ q=>(hB.frozen (p:=⟨g,q,none⟩) h2).trans (h3 q),fun k x hk j u hj=>(hB.cell (p:=⟨g,k*9+j,none⟩) h2).trans (h4 k x hk j u hj)⟩
theorem a98 (s:ByteArray) (short:Bool) (w:World) (hs:2000<s.size):
    Calls prog 42 #[.string s,.bool short] w fun e w'=>e=.returned (.tuple #[.string ⟨#[]⟩,.agg #[.int .i64 3,.int .i64 0]])/\Below w.heap.size w w':=by
 have hs':(2000:Int)<s.size:=by omega
 go_enter func42,ntmps42;go_wp2_with fail;refine bodyPost_ret (v:=.tuple #[.string ⟨#[]⟩,.agg #[.int .i64 3,.int .i64 0]]) (by simp[results,results42,go_sem]) rfl ⟨rfl,?_⟩
 exact (Below.refl _ _).alloc (Nat.le_refl _) _
theorem b3j (s:ByteArray) (ls:List ByteArray) (short:Bool) (w:World) (hE:Env w) (hs:s.size<=2000) (hls:Lib.splitB ⟨#[10]⟩ 0 (Lib.countB s ⟨#[10]⟩) s=ls) (hlz:∀t∈ls,t.size<=2000) (hll:ls.length<=2001):
    Calls prog 42 #[.string s,.bool short] w fun e w'=>e=.returned (.tuple #[.string ⟨(c3c (ls.map (·.data.toList)) short).1.toArray⟩,.agg #[.int .i64 (c3c (ls.map (·.data.toList)) short).2.1,.int .i64 (c3c (ls.map (·.data.toList)) short).2.2]])/\Below w.heap.size w w':=by
 have HR:=hid (fun W hB=>a8K s ls W (hE.below hB hE.1) hs hls hlz)
 have HRK:=hid (c6O (ls.map (·.data.toList)))
 have HAS:Hid (c3c (ls.map (·.data.toList)) short=if (Pn.rdP (ls.map (·.data.toList))).1=0 then
  (if 1024<Pn.plq (b4G (Pn.rdP (ls.map (·.data.toList))).2.2.2 (Pn.fszs short (Pn.rdP (ls.map (·.data.toList))).2.2.1 (Pn.rdP (ls.map (·.data.toList))).2.2.1.length)) (Pn.rdP (ls.map (·.data.toList))).2.2.1.length then ([],8,0)
   else b5Z (a3h (b4G (Pn.rdP (ls.map (·.data.toList))).2.2.2 (Pn.fszs short (Pn.rdP (ls.map (·.data.toList))).2.2.1 (Pn.rdP (ls.map (·.data.toList))).2.2.1.length)) (Pn.rdP (ls.map (·.data.toList))).2.2.1.length) (Pn.rdP (ls.map (·.data.toList))).2.2.2 (b4G (Pn.rdP (ls.map (·.data.toList))).2.2.2 (Pn.fszs short (Pn.rdP (ls.map (·.data.toList))).2.2.1 (Pn.rdP (ls.map (·.data.toList))).2.2.1.length)))
  else ([],(Pn.rdP (ls.map (·.data.toList))).1,(Pn.rdP (ls.map (·.data.toList))).2.1)):=hid rfl
 rw[List.length_map]at HRK;generalize c3c (ls.map (·.data.toList)) short=PA at *
 generalize Pn.rdP (ls.map (·.data.toList))=RD at *
 obtain ⟨er,eln,l,N⟩:=RD;simp only at HRK HAS;have hs':(s.size:Int)<=2000:=by omega
 clear hE hls;go_enter func42,ntmps42;go_wp2_with fail;refine (HR.out _ ((Below.refl _ _).alloc (Nat.le_refl _) (.cells #[.int .i64 0,.int .i64 0] 39))).mono ?_;rintro e w1 ⟨ao,n,cp,mo,rfl,hB1,hok⟩;simp only at hok;have HF1:=hid ((CellsAt.new w [.int .i64 0,.int .i64 0] 39).next hB1);have HB1:Hid (Below w.heap.size w w1):=hid (((Below.refl _ _).alloc (Nat.le_refl _) _).trans (hB1.mono (by simp)))
 have HOK:=hid hok;have hw1:=HF1.out.1;clear hB1 HR hok;by_cases her:er=0
 ·subst her
  obtain ⟨mb,rfl,hmb,hNm,hown,hne⟩:=HOK.out rfl;have hln:=a6r hown;subst hln;obtain ⟨hRd,hTg⟩:=HRK.out rfl;rw[if_pos rfl]at HAS;rw[World.size_alloc]at hmb hown;obtain ⟨g,hg1,hg2,hPQ⟩:=c1O (w:=(w.alloc (.cells #[.int .i64 0,.int .i64 0] 39))) (.cells #[.int .i64 0,.int .i64 eln] 39) (by rw[World.size_alloc];exact hmb) hNm (by rw[World.size_alloc];exact hown) hne
  rw[World.size_alloc]at hg2;have HPG:=hid hPQ;have HFF:=hid ((HF1.out.alloc (.cells #[.slice ao l.length cp,.map (some mb)] 148)).alloc (.cells #[.int .i64 0,.int .i64 eln] 39));have HBB:Hid (Below w.heap.size w ((w1.alloc (.cells #[.slice ao l.length cp,.map (some mb)] 148)).alloc (.cells #[.int .i64 0,.int .i64 eln] 39))):=hid ((HB1.out.alloc HB1.out.size _).alloc (by rw[World.size_alloc];have:=HB1.out.size;omega) _)
  have hg0:g<((w1.alloc (.cells #[.slice ao l.length cp,.map (some mb)] 148)).alloc (.cells #[.int .i64 0,.int .i64 eln] 39)).heap.size:=by simp only[World.size_alloc];omega
  have HTG:=hid hTg;have HRD:=hid hRd;have hll':=hRd.len;clear hPQ hTg hRd hNm hown hne HOK HRK HF1;go_wp2_with fail;generalize (w1.alloc (.cells #[.slice ao l.length cp,.map (some mb)] 148)).alloc (.cells #[.int .i64 0,.int .i64 eln] 39)=W at *;refine (b6c w1.heap.size g cp mb ao l N short W HPG.out hg0 HTG.out (by omega) (fun x hx=>(HRD.out.pt x hx).1)).mono ?_
  rintro e w2 ⟨m,pa,pc,rfl,hIA,hpg,hkp,hdone⟩;have hS0:=b8J (short:=short) (fun x hx=>(HRD.out.pt x hx).1)
  have hL0:=a2Q short l l.length
  have hEQ:Pn.rnds N m (Pn.fszs short l l.length)=b4G N (Pn.fszs short l l.length):=c2N hS0 (by
   unfold Pn.done;rw[a18,hL0];exact hdone)
  have HSI:=hid (c2u (N:=N) m (c60 short l));have HTM:=hid ((HTG.out.fszs short l.length).rnds m);have HDM:=hid (c4q (N:=N) m (c7E (short:=short) (fun x hx=>(HRD.out.pt x hx).1)))
  have HBD:=hid (a7W (a4b (N:=N) m hS0));have HLN:Hid ((Pn.rnds N m (Pn.fszs short l l.length)).length=l.length):=hid (by rw[a18,hL0])
  rw[<-hEQ]at HAS;clear hEQ hS0 hL0 hdone;generalize Pn.rnds N m (Pn.fszs short l l.length)=L at *;obtain ⟨q,rfl,hq1,hq2,hqc⟩:=hIA.at' l.length (by rw[a1w];omega)
  rw[a4F _ _ _ (Nat.le_refl _)]at hqc;have HPG2:=hid hpg;have HIA:=hid hIA;have c0:=HPG2.out.c0;rw[HLN.out]at c0;have hbl:=HPG2.out.bl;have HB2:Hid (Below w.heap.size w w2):=hid (hkp.below HBB.out (by omega) (Nat.le_refl _))
  have HF2:Hid (CellsAt w.heap.size [.int .i64 0,.int .i64 0] w2):=hid (a38 HFF.out hkp.size (hkp.block w.heap.size HFF.out.1 (by omega)))
  have hbd:=HBD.out l.length;clear hIA hpg hkp HPG HFF HBB;have hlt1:(l.length:Int)<((l.length+1:Nat):Int):=by omega
  have hlt2:(l.length:Int)<(l.length:Int)+1:=by omega
  by_cases h1024:1024<Pn.plq L l.length
  ·rw[if_pos h1024]at HAS
   have q0:=HF2.out.2.2 0 _ rfl;have q1:=HF2.out.2.2 1 _ rfl;have qf:=HF2.out.2.1;go_wp2_with fail;(refine bodyPost_ret (v:=.tuple #[.string ⟨#[]⟩,.agg #[.int .i64 8,.int .i64 0]]) (by simp[results,results42,go_sem,q0,q1]) rfl ⟨by rw[HAS.out],?_⟩);exact (HB2.out.setCell (by simp) _).setCell (by simp) _
  ·rw[if_neg h1024]at HAS
   have h1024':Pn.plq L l.length<=1024:=by omega
   have HBY:=hid (fun pc=>b5D w1.heap.size g cp mb ao L N (a3h L l.length) (some ⟨q,0,none⟩) W.heap.size pc w2 HPG2.out HTM.out (by rw[HLN.out];omega) (by rw[a1w,HLN.out]) HIA.out (fun j=>by
    rcases Nat.lt_or_ge l.length j with hj|hj
    ·rw[List.getD_eq_getElem?_getD,List.getElem?_eq_none (by rw[a1w];omega)];simp
    ·rw[a4F _ _ _ hj]
     have:=HBD.out j;omega) HDM.out HSI.out)
   rw[a1w]at HBY;generalize b5Z (a3h L l.length) N L=BY at *;obtain ⟨by1,by2,by3⟩:=BY;simp only at HBY;go_wp2_with fail;refine (HBY.out _).mono ?_;rintro e w3 ⟨rfl,hB3⟩;have q0:=(HF2.out.next hB3).2.2 0 _ rfl;have q1:=(HF2.out.next hB3).2.2 1 _ rfl;have qf:=(HF2.out.next hB3).2.1;have HB3:=hid (HB2.out.trans (hB3.mono HB2.out.size));clear hB3 HBY c0 hqc;go_wp2_with fail;(refine bodyPost_ret (v:=.tuple #[.string ⟨by1.toArray⟩,.agg #[.int .i64 by2,.int .i64 by3]]) (by simp[results,results42,go_sem,q0,q1]) rfl ⟨by rw[HAS.out],?_⟩);exact (HB3.out.setCell (by simp) _).setCell (by simp) _
 ·rw[if_neg her]at HAS
  have hbn:(er != 0)=true:=by simpa using her
  have hbb:(er==0)=false:=by simpa using her
  have q0:=HF1.out.2.2 0 _ rfl;have q1:=HF1.out.2.2 1 _ rfl;have qf:=HF1.out.2.1;clear HOK HRK;have HB2:Hid (Below w.heap.size w ((w1.alloc (.cells #[.slice ao n cp,.map mo] 148)).alloc (.cells #[.int .i64 er,.int .i64 eln] 39))):=hid ((HB1.out.alloc HB1.out.size _).alloc (by rw[World.size_alloc];have:=HB1.out.size;omega) _)
  have HF2:=hid ((HF1.out.alloc (.cells #[.slice ao n cp,.map mo] 148)).alloc (.cells #[.int .i64 er,.int .i64 eln] 39))
  have HN2:Hid (CellsAt (w1.heap.size+1) [.int .i64 er,.int .i64 eln] ((w1.alloc (.cells #[.slice ao n cp,.map mo] 148)).alloc (.cells #[.int .i64 er,.int .i64 eln] 39))):=hid (by
   have:=CellsAt.new (w1.alloc (.cells #[.slice ao n cp,.map mo] 148)) [.int .i64 er,.int .i64 eln] 39;rw[World.size_alloc]at this;exact this)
  go_wp2_with fail;generalize (w1.alloc (.cells #[.slice ao n cp,.map mo] 148)).alloc (.cells #[.int .i64 er,.int .i64 eln] 39)=W at *;clear q0 q1 qf;have q0:=HF2.out.2.2 0 _ rfl;have q1:=HF2.out.2.2 1 _ rfl;have qf:=HF2.out.2.1;have n0:=HN2.out.2.2 0 _ rfl;have n1:=HN2.out.2.2 1 _ rfl;have nl:=HN2.out.1;have hnw:w1.heap.size+1≠w.heap.size:=by omega
  go_region
  all_goals
   go_wp2_with fail;(refine bodyPost_ret (v:=.tuple #[.string ⟨#[]⟩,.agg #[.int .i64 er,.int .i64 eln]]) (by simp[results,results42,go_sem,q0,q1]) rfl ⟨by rw[HAS.out],?_⟩);exact ((HB2.out.setCell (by simp) _).setCell (by simp) _).drew
theorem c1H {s:ByteArray} (hs:s.size<=2000):(∀t∈Lib.splitB ⟨#[10]⟩ 0 (Lib.countB s ⟨#[10]⟩) s,t.size<=2000)/\(Lib.splitB ⟨#[10]⟩ 0 (Lib.countB s ⟨#[10]⟩) s).length<=2001:=by
 have hsub:∀(k:Nat) (q:ByteArray),q.size<=2000->∀t∈Lib.splitB ⟨#[10]⟩ 0 k q,t.size<=2000:=by
  intro k
  induction k with
  | zero=>intro q hq t ht;simp[Lib.splitB]at ht;rw[ht];exact hq
  | succ k ih=>
   intro q hq t ht;unfold Lib.splitB at ht
   split at ht
   ·simp at ht;rw[ht];exact hq
   ·rcases List.mem_cons.1 ht with rfl|ht
    ·rw[ByteArray.size_extract];omega
    ·exact ih _ (by rw[ByteArray.size_extract];omega) t ht
 refine ⟨hsub _ s hs,?_⟩;rw[Lib.splitB_all ⟨#[10]⟩ (by decide) 0 _ s rfl]
 have:=Lib.countB_mul_le ⟨#[10]⟩ (by decide) _ s (Nat.le_refl _)
 have e1:(⟨#[10]⟩:ByteArray).size=1:=rfl;rw[e1]at this;omega
def b0e (s:ByteArray):List (List UInt8):=(Lib.splitB ⟨#[10]⟩ 0 (Lib.countB s ⟨#[10]⟩) s).map (·.data.toList)
def b3O (s:ByteArray) (short:Bool):List UInt8×Int×Int:=if 2000<s.size then ([],3,0) else c3c (b0e s) short
theorem b2a (s:ByteArray) (short:Bool) (w:World) (hE:Env w):
    Calls prog 42 #[.string s,.bool short] w fun e w'=>e=.returned (.tuple #[.string ⟨(b3O s short).1.toArray⟩,.agg #[.int .i64 (b3O s short).2.1,.int .i64 (b3O s short).2.2]])/\Below w.heap.size w w':=by
 by_cases h:2000<s.size
 ·have e:b3O s short=([],3,0):=by unfold b3O;rw[if_pos h]
  rw[e];exact a98 s short w h
 ·have e:b3O s short=c3c (b0e s) short:=by unfold b3O;rw[if_neg h]
  rw[e];obtain ⟨h1,h2⟩:=c1H (s:=s) (by omega)
  exact b3j s _ short w hE (by omega) rfl h1 h2
