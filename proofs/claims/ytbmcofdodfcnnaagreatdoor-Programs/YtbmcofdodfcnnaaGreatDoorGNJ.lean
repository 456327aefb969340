import Derived.Test.YtbmcofdodfcnnaaGreatDoorGNF
import Derived.Test.YtbmcofdodfcnnaaGreatDoorLF
import Derived.Test.YtbmcofdodfcnnaaGreatDoorGAG
import Derived.Test.YtbmcofdodfcnnaaGreatDoorGPM
set_option linter.all false
set_option maxHeartbeats 400000000
set_option maxRecDepth 100000
namespace Go.Proofs.YtbmcofdodfcnnaaGreatDoor
open Pn
open Go.Proofs.Tryz
open Go.RowKit Go.Maps
structure AS (b base mb:Nat) (W0:World) (v0:Value) (xs:List Value) (n:Nat) (v:Value) (w:World):Prop where
 c:CellsAt b [v,.map (some mb)] w
 o:w.ownsRow base 202 9 v n xs
 ne:v.ownBlock≠some b
 k:a3c b v0.ownBlock W0 w
 own:v.ownBlock=v0.ownBlock\/∃q,v.ownBlock=some q/\W0.heap.size<=q
theorem AS.nm {b base mb n:Nat} {v0 v:Value} {xs:List Value} {N:List (List UInt8×Nat)} {W0 w:World} (h:AS b base mb W0 v0 xs n v w) (hN:a8W mb N W0) (hmb:mb≠b) (hv:v0.ownBlock≠some mb):a8W mb N w:=hN.block (h.k.block mb hN.lt hmb hv)
theorem b7e {b base mb n gg cap:Nat} {v0 v:Value} {xs ys:List Value} {W0 w W w9:World} {o:Obj} (h:AS b base mb W0 v0 xs n v w) (hB:Below w.heap.size w W) (hgrow:(W.alloc o).drew.grownBy w9 v.ownBlock) (hat:v.ownBlock=some gg\/gg=W.heap.size+1)
    (hown:w9.ownsRow base 202 9 (.slice (some ⟨gg,0,none⟩) (n+1) cap) (n+1) (xs++ys)):
    AS b base mb W0 v0 (xs++ys) (n+1) (.slice (some ⟨gg,0,none⟩) (n+1) cap) (w9.setCell ⟨b,0,none⟩ (.slice (some ⟨gg,0,none⟩) (n+1) cap)):=by
 have hz:=h.c.1;have hsz:=hB.size;have hk0:=h.k.size
 have hgc:gg≠b:=by
  rcases hat with e|e
  ·exact fun e2=>h.ne (by rw[e,e2])
  ·omega
 have hBg:Below w.heap.size w (W.alloc o).drew:=(hB.alloc hB.size _).drew;have hcc:CellsAt b [v,.map (some mb)] (W.alloc o).drew:=h.c.step hBg hz;have hc9:CellsAt b [v,.map (some mb)] w9:=hcc.keeps (a3c.of_grown (c:=w9.heap.size) hgrow) (by have:=hgrow.size;have:=hcc.1;omega) h.ne
 refine ⟨?_,?_,?_,?_,?_⟩
 ·exact hc9.set 0 _ (by simp)
 ·exact a0u hown (fun k hk=>by
   (have:gg=k:=by simpa[Value.ownBlock] using hk);subst this;exact Below.heap_setCell _ _ _ _ (fun e=>hgc e))
 ·simpa[Value.ownBlock] using hgc
 ·have k1:a3c b v.ownBlock w w9:=(a3c.of_below hBg).trans (a3c.of_grown hgrow)
  have k2:a3c b v.ownBlock w (w9.setCell ⟨b,0,none⟩ (.slice (some ⟨gg,0,none⟩) (n+1) cap)):=k1.trans (a3c.setCell _ _ _ _ _);refine ⟨k2.os.trans h.k.os,k2.tape.trans h.k.tape,k2.output.trans h.k.output,Nat.le_trans hk0 k2.size,fun d hd h1 h2=>?_⟩
  refine (k2.block d (by omega) h1 ?_).trans (h.k.block d hd h1 h2)
  rcases h.own with e|⟨q,e,hq⟩
  ·rw[e];exact h2
  ·rw[e];intro e2;injection e2 with e2;omega
 ·rcases hat with e|e
  ·rw[show (Value.slice (some ⟨gg,0,none⟩) (n+1) cap).ownBlock=some gg by simp[Value.ownBlock],<-e]
   exact h.own
  ·exact .inr ⟨gg,by simp[Value.ownBlock],by omega⟩
theorem a6r {w:World} {base:Nat} {e:TypeId} {size m:Nat} {ao:Option Addr} {ln cp:Nat} {xs:List Value} (h:w.ownsRow base e size (.slice ao ln cp) m xs):ln=m:=by
 obtain ⟨_,⟨hv,h0⟩|⟨g,cap,cur,hv,_⟩⟩:=h
 ·simp at hv;omega
 ·simp at hv;exact hv.2.1
theorem b06 {w:World} {base:Nat} {ao:Option Addr} {ln cp:Nat} {l:List Pn.Prt} (h:w.ownsRow base 193 7 (.slice ao ln cp) l.length (l.flatMap a3j)) (hn:0<l.length):
    ∃g,ao=some ⟨g,0,none⟩/\base<=g/\g<w.heap.size/\∀k x,l[k]?=some x->∀j u,(a3j x)[j]?=some u->w.cell? ⟨g,k*7+j,none⟩=some u:=by
 have h':=h;obtain ⟨h1,⟨hv,h0⟩|⟨g,cap,cur,hv,hg,hc,h3⟩⟩:=h
 ·omega
 ·simp at hv
  obtain ⟨rfl,rfl,rfl⟩:=hv;refine ⟨g,rfl,hg,(h'.lt g rfl).2,fun k x hk j u hu=>?_⟩
  have hkl:k<l.length:=(a2e hk).2
  have hj:j<7:=by
   have:=(List.getElem?_eq_some_iff.1 hu).1;simpa[a3j] using this
  have hf:=a1j a3j 7 (fun _=>rfl) l k j hj hkl
  rw[hk]at hf;simp only[Option.bind_some]at hf;have:=h'.cells (g:=g) rfl (7*k+j) _ (hf.trans hu)
  have e:(⟨g,0,none⟩:Addr).add (7*k+j)=⟨g,k*7+j,none⟩:=by
   simp only[Addr.add];rw[Nat.mul_comm 7 k];simp;omega
  rw[e]at this;exact this
def mkQ (number:Int) (p:Pn.Prt):Pn.Qt:=⟨p,number,0⟩
def b3n (l:List Pn.Qt) (ps:List Pn.Prt) (number:Int) (j:Nat):List Value:=(l++(ps.take j).map (mkQ number)).flatMap Pn.qtC
theorem b2c (l:List Pn.Qt) (ps:List Pn.Prt) (number:Int):b3n l ps number 0=l.flatMap Pn.qtC:=by simp[b3n]
theorem b07 (l:List Pn.Qt) (ps:List Pn.Prt) (number:Int) (j:Nat) (p:Pn.Prt) (h:ps[j]?=some p):b3n l ps number (j+1)=b3n l ps number j++Pn.qtC (mkQ number p):=by
 have hj:=(List.getElem?_eq_some_iff.1 h).1;have e:ps[j]=p:=(List.getElem?_eq_some_iff.1 h).2;unfold b3n;rw[List.take_succ_eq_append_getElem hj,e];simp
def c0C (b base mb:Nat) (v:Value) (r:Int×List Pn.Qt×List (List UInt8×Nat)) (w:World) (e:Ending) (w':World):Prop:=
 e=.returned (.int .i64 r.1)/\∃v',CellsAt b [v',.map (some mb)] w'/\w'.ownsRow base 202 9 v' r.2.1.length (r.2.1.flatMap Pn.qtC)/\v'.ownBlock≠some b/\a8W mb r.2.2 w'/\
  (v'.ownBlock=v.ownBlock\/∃q,v'.ownBlock=some q/\w.heap.size<=q)/\w'.os=w.os/\w'.tape=w.tape/\w'.output=w.output/\w.heap.size<=w'.heap.size/\∀k,k<w.heap.size->k≠b->k≠mb->v.ownBlock≠some k->w'.heap[k]?=w.heap[k]?
theorem b5k {b base mb n:Nat} {v v':Value} {l:List Pn.Qt} {ps:List Pn.Prt} {number:Int} {N:List (List UInt8×Nat)} {w W0 wr:World} (hw0:w.heap.size<=W0.heap.size) (hos:W0.os=w.os) (htp:W0.tape=w.tape) (hou:W0.output=w.output) (hblk:∀k,k<w.heap.size->k≠mb->W0.heap[k]?=w.heap[k]?)
    (hnm:a8W mb N W0) (hmb:mb≠b) (hvm:v.ownBlock≠some mb) (h:AS b base mb W0 v (b3n l ps number n) (l.length+n) v' wr) (hn:n=ps.length):
    c0C b base mb v (0,l++ps.map (mkQ number),N) w (.returned (.int .i64 0)) wr:=by
 subst hn;refine ⟨rfl,v',h.c,?_,h.ne,h.nm hnm hmb hvm,?_,h.k.os.trans hos,h.k.tape.trans htp,h.k.output.trans hou,Nat.le_trans hw0 h.k.size,fun k hk h1 h2 h3=>(h.k.block k (by omega) h1 h3).trans (hblk k hk h2)⟩
 ·have:=h.o
  unfold b3n at this;rw[List.take_length]at this;simpa using this
 ·rcases h.own with e|⟨q,e,hq⟩
  ·exact .inl e
  ·exact .inr ⟨q,e,by omega⟩
theorem c1a (b base mb:Nat) (s:ByteArray) (number:Int) (v:Value) (l:List Pn.Qt) (N:List (List UInt8×Nat)) (w:World) (hC:CellsAt b [v,.map (some mb)] w) (hown:w.ownsRow base 202 9 v l.length (l.flatMap Pn.qtC)) (hne:v.ownBlock≠some b) (_hvm:v.ownBlock≠some mb) (_hmb:mb≠b) (_hbase:base<=w.heap.size) (hNm:a8W mb N w) (_hn:l.length<=500000) (hs:s.size<=2000) (hE:Env w) (er:Int) (hr:(a0F s.data.toList).2.2=er) (her:er≠0):
    Calls prog 141 #[.pointer (some ⟨b,0,none⟩),.string s,.int .i64 number] w fun e w'=>c0C b base mb v (a8Y s.data.toList number l N) w e w':=by
 have HV:Hid (a8Y s.data.toList number l N=(er,l,N)):=hid (by unfold a8Y;rw[hr,if_neg her])
 have HR:=hid (a3Y s w hs hE);rw[hr]at HR;have hbn:(er != 0)=true:=by simpa using her
 have hbb:(er==0)=false:=by simpa using her
 go_enter func141,ntmps141;go_wp2_with fail;refine HR.out.mono ?_;rintro e w1 ⟨ao,n,cp,rfl,hO,hB1⟩;have HB1:=hid hB1;clear hB1 hO HR;go_wp2_with fail;go_ret;rw[HV.out];have hB:=HB1.out.alloc HB1.out.size (.cells #[.string ⟨(a0F s.data.toList).1.toArray⟩,.slice ao n cp] 255);exact ⟨rfl,v,hC.next hB,a1K hown hB,hne,hNm.next hB,.inl rfl,hB.os,hB.tape,hB.output,hB.size,fun k hk _ _ _=>hB.block k hk⟩
theorem b5G (b base mb:Nat) (s:ByteArray) (number:Int) (v:Value) (l:List Pn.Qt) (N:List (List UInt8×Nat)) (w:World) (hC:CellsAt b [v,.map (some mb)] w) (hown:w.ownsRow base 202 9 v l.length (l.flatMap Pn.qtC)) (hne:v.ownBlock≠some b) (hvm:v.ownBlock≠some mb) (hmb:mb≠b) (hbase:base<=w.heap.size) (hNm:a8W mb N w) (hn:l.length<=500000) (hs:s.size<=2000) (hE:Env w) (ps:List Pn.Prt) (hps:ps.length<=1000) (hr:a0F s.data.toList=([],ps,0)):
    Calls prog 141 #[.pointer (some ⟨b,0,none⟩),.string s,.int .i64 number] w fun e w'=>c0C b base mb v (a8Y s.data.toList number l N) w e w':=by
 obtain ⟨i0,hi,hz0,hz1,hz2⟩:=info_parts b4z;have HV:Hid (a8Y s.data.toList number l N=(0,l++ps.map (mkQ number),N)):=hid (by unfold a8Y;rw[hr];simp[mkQ])
 have HR:=hid (a3Y s w hs hE);rw[hr]at HR;have hbw:=hC.1;go_enter func141,ntmps141;go_wp2_with fail;refine HR.out.mono ?_;rintro e w1 ⟨ao,n,cp,rfl,hO,hB1⟩;have hln:n=ps.length:=a6r hO;subst hln;have HB:Hid (Below w.heap.size w (w1.alloc (.cells #[.string ⟨#[]⟩,.slice ao ps.length cp] 255))):=hid (hB1.alloc hB1.size _);have HROW:=hid (fun h=>b06 (a1K hO ((Below.refl _ _).alloc (Nat.le_refl _) (.cells #[.string ⟨#[]⟩,.slice ao ps.length cp] 255))) h)
 have HAS:Hid (AS b base mb (w1.alloc (.cells #[.string ⟨#[]⟩,.slice ao ps.length cp] 255)) v (b3n l ps number 0) (l.length+0) v (w1.alloc (.cells #[.string ⟨#[]⟩,.slice ao ps.length cp] 255))):=hid ⟨hC.next HB.out,by rw[b2c];exact a1K hown HB.out,hne,a3c.refl _ _ _,.inl rfl⟩
 have HVG:Hid (∀g,w.heap.size<=g->v.ownBlock≠some g):=hid (fun g hg e=>by have:=(hown.lt g e).2;omega)
 have hWs:=HB.out.size
 have HEND:Hid (∀j v' wr,AS b base mb (w1.alloc (.cells #[.string ⟨#[]⟩,.slice ao ps.length cp] 255)) v (b3n l ps number j) (l.length+j) v' wr->j=ps.length->c0C b base mb v (0,l++ps.map (mkQ number),N) w (.returned (.int .i64 0)) wr):=hid (fun j v' wr h hj=>
  b5k HB.out.size HB.out.os HB.out.tape HB.out.output (fun k hk _=>HB.out.block k hk) (hNm.next HB.out) hmb hvm h hj)
 clear hO hB1 HR hC hown hNm hE;go_wp2_with fail;generalize w1.alloc (.cells #[.string ⟨#[]⟩,.slice ao ps.length cp] 255)=W at *;go_loopw [49] (fun k wr=>∃(j:Nat) (v':Value),j<=ps.length/\k=.int .i64 j/\AS b base mb W v (b3n l ps number j) (l.length+j) v' wr) (fun k _=>ps.length-(intOf k).toNat)
 case atStart=>exact ⟨0,v,Nat.zero_le _,rfl,HAS.out⟩
 case round=>
  obtain ⟨j,v',hj,rfl,hA⟩:=hrel;by_cases hlt:j<ps.length
  ·obtain ⟨x,hx⟩:∃x,ps[j]?=some x:=⟨_,List.getElem?_eq_getElem hlt⟩
   (obtain ⟨g,rfl,hg1,hg2,hat0⟩:=HROW.out (by omega));(have hblk:=hA.k.block g hg2 (by omega) (HVG.out g hg1));have HQS:=hid (b07 l ps number j x hx);obtain ⟨data,⟨op,rd,rs1,rs2,imm⟩,tg⟩:=x;have p0:=(World.cell?_of_block (a:=⟨g,j*7+0,none⟩) hblk).trans (hat0 j _ hx 0 _ rfl);have p1:=(World.cell?_of_block (a:=⟨g,j*7+1,none⟩) hblk).trans (hat0 j _ hx 1 _ rfl);have p2:=(World.cell?_of_block (a:=⟨g,j*7+2,none⟩) hblk).trans (hat0 j _ hx 2 _ rfl);have p3:=(World.cell?_of_block (a:=⟨g,j*7+3,none⟩) hblk).trans (hat0 j _ hx 3 _ rfl);have p4:=(World.cell?_of_block (a:=⟨g,j*7+4,none⟩) hblk).trans (hat0 j _ hx 4 _ rfl);have p5:=(World.cell?_of_block (a:=⟨g,j*7+5,none⟩) hblk).trans (hat0 j _ hx 5 _ rfl);have p6:=(World.cell?_of_block (a:=⟨g,j*7+6,none⟩) hblk).trans (hat0 j _ hx 6 _ rfl);simp only[Nat.add_zero]at p0 p1 p2 p3 p4 p5 p6;have hgl:g<wr.heap.size:=Nat.lt_of_lt_of_le hg2 hA.k.size;(have hji:(j:Int)<ps.length:=by omega);have HA:=hid hA;clear hA hblk hat0;go_wp2_with fail;have HBV:Hid (Below wr.heap.size wr (wr.alloc (.cells #[.string ⟨data.toArray⟩,.int .i64 op,.int .i64 rd,.int .i64 rs1,.int .i64 rs2,.int .i64 imm,.string ⟨tg.toArray⟩] 193))):=hid ((Below.refl _ _).alloc (Nat.le_refl _) _);have HCV:=hid (HA.out.c.next HBV.out);have HOV:=hid (a1K HA.out.o HBV.out);have HN:Hid (CellsAt wr.heap.size (a3j ⟨data,⟨op,rd,rs1,rs2,imm⟩,tg⟩) (wr.alloc (.cells #[.string ⟨data.toArray⟩,.int .i64 op,.int .i64 rd,.int .i64 rs1,.int .i64 rs2,.int .i64 imm,.string ⟨tg.toArray⟩] 193))):=hid (CellsAt.new wr (a3j ⟨data,⟨op,rd,rs1,rs2,imm⟩,tg⟩) 193);have hwz:=HBV.out.size;have hkz:=HA.out.k.size;have hvb:=HA.out.ne;clear p0 p1 p2 p3 p4 p5 p6 hgl;generalize wr.alloc (.cells #[.string ⟨data.toArray⟩,.int .i64 op,.int .i64 rd,.int .i64 rs1,.int .i64 rs2,.int .i64 imm,.string ⟨tg.toArray⟩] 193)=V at *;have p0:=HN.out.2.2 0 _ rfl;have p1:=HN.out.2.2 1 _ rfl;have p2:=HN.out.2.2 2 _ rfl;have p3:=HN.out.2.2 3 _ rfl;have p4:=HN.out.2.2 4 _ rfl;have p5:=HN.out.2.2 5 _ rfl;have p6:=HN.out.2.2 6 _ rfl;simp only at p1 p2 p3 p4 p5;have pl:=HN.out.1;have c0:=HCV.out.2.2 0 _ rfl;have cf:=HCV.out.2.1 0;have hbW:=HCV.out.1;have hbaseW:base<=V.heap.size:=by omega
   go_region_law
    ((refine step_append_lies _ (by rfl) _ _ _ (by rfl) base 202 i0 _ 9 88 underlying145 hi hz0 hz1 hz2 rfl (by omega) v' (l.length+j) (b3n l ps number j) (by rfl) ((HOV.out.alloc _).drew)
        ⟨V.heap.size,0,none⟩ 1 1 (Pn.qtC (mkQ number ⟨data,⟨op,rd,rs1,rs2,imm⟩,tg⟩)) (by rfl) (by rfl) (World.news_of_block (cs:=(Pn.qtC (mkQ number ⟨data,⟨op,rd,rs1,rs2,imm⟩,tg⟩)).toArray) (t:=202) (fr:=(0,0)) (heap_alloc_new V _)) (by simp[Value.oneCell',mkQ,Pn.qtC,a3j])
        (by omega) (by unfold maxLen;omega) (by omega) (by simp;omega) (V.heap.size+1) (by simp) ?_;intro gg cap w9 hown9 hgrow hat hlt;have q1:w9.cell? ⟨b,0,none⟩=some v':=(hgrow.cell_far _ (by simp;omega) (Ne.symm hvb)).trans (by simp[c0,World.cell?_alloc_some]);have qf:w9.frozen? ⟨b,0,none⟩=false:=(hgrow.frozen_far _ (by simp;omega) (Ne.symm hvb)).trans (by simp[cf,World.frozen?_alloc_old,Nat.ne_of_lt hbW])))
   all_goals
    have HOUT:=hid (b7e HA.out HBV.out hgrow hat hown9);clear hown9 hgrow hat q1 qf hlt;generalize w9.setCell ⟨b,0,none⟩ _=Z at *;go_wp2_with fail;go_roundw;(case rel=>exact ⟨j+1,_,by omega,by go_num,by rw[HQS.out];exact HOUT.out⟩);case measure=>simp[intOf];omega
  ·have hjn:j=ps.length:=by omega
   have HA:=hid hA;clear hA;go_wp2_with fail;go_ret;rw[HV.out];exact HEND.out j v' wr HA.out hjn
theorem b5z (b base mb:Nat) (s:ByteArray) (number:Int) (v:Value) (l:List Pn.Qt) (N:List (List UInt8×Nat)) (w:World) (hC:CellsAt b [v,.map (some mb)] w) (hown:w.ownsRow base 202 9 v l.length (l.flatMap Pn.qtC)) (hne:v.ownBlock≠some b) (_hvm:v.ownBlock≠some mb) (_hmb:mb≠b) (_hbase:base<=w.heap.size) (hNm:a8W mb N w) (_hn:l.length<=500000) (hs:s.size<=2000) (hE:Env w) (nm:List UInt8) (hnm:nm≠[]) (hnl:nm.length<=2000) (ps:List Pn.Prt) (hr:a0F s.data.toList=(nm,ps,0)) (hlk:(N.lookup nm).isSome=true):
    Calls prog 141 #[.pointer (some ⟨b,0,none⟩),.string s,.int .i64 number] w fun e w'=>c0C b base mb v (a8Y s.data.toList number l N) w e w':=by
 have HV:Hid (a8Y s.data.toList number l N=(6,l,N)):=hid (by unfold a8Y;rw[hr];simp[hnm,hlk])
 have HR:=hid (a3Y s w hs hE);rw[hr]at HR;have hbw:=hC.1;have hte:=isE_not hnm;go_enter func141,ntmps141;go_wp2_with fail;refine HR.out.mono ?_;rintro e w1 ⟨ao,n,cp,rfl,hO,hB1⟩;have hln:n=ps.length:=a6r hO;subst hln;have HB:Hid (Below w.heap.size w (w1.alloc (.cells #[.string ⟨nm.toArray⟩,.slice ao ps.length cp] 255))):=hid (hB1.alloc hB1.size _);have HC:=hid (hC.next HB.out);have c0:=HC.out.2.2 0 _ rfl;have c1:=HC.out.2.2 1 _ rfl;have hcl:=HC.out.1;obtain ⟨cq,hrun⟩:=(hNm.next HB.out.drew).look nm (by unfold maxLen;omega)
 rw[hlk]at hrun;clear hO hB1 HR hE;go_wp2_with fail;go_region
 all_goals
  go_wp2_with fail;go_ret;rw[HV.out];have hB:=HB.out.drew;exact ⟨rfl,v,hC.next hB,a1K hown hB,hne,hNm.next hB,.inl rfl,hB.os,hB.tape,hB.output,hB.size,fun k hk _ _ _=>hB.block k hk⟩
theorem b5S (b base mb:Nat) (s:ByteArray) (number:Int) (v:Value) (l:List Pn.Qt) (N:List (List UInt8×Nat)) (w:World) (hC:CellsAt b [v,.map (some mb)] w) (hown:w.ownsRow base 202 9 v l.length (l.flatMap Pn.qtC)) (hne:v.ownBlock≠some b) (hvm:v.ownBlock≠some mb) (hmb:mb≠b) (hbase:base<=w.heap.size) (hNm:a8W mb N w) (hn:l.length<=500000) (hs:s.size<=2000) (hE:Env w) (nm:List UInt8) (hnm:nm≠[]) (hnl:nm.length<=2000) (hN:N.length<=1000000) (ps:List Pn.Prt) (hps:ps.length<=1000) (hr:a0F s.data.toList=(nm,ps,0)) (hlk:N.lookup nm=none):
    Calls prog 141 #[.pointer (some ⟨b,0,none⟩),.string s,.int .i64 number] w fun e w'=>c0C b base mb v (a8Y s.data.toList number l N) w e w':=by
 obtain ⟨i0,hi,hz0,hz1,hz2⟩:=info_parts b4z;have HV:Hid (a8Y s.data.toList number l N=(0,l++ps.map (mkQ number),N++[(nm,l.length)])):=hid (by unfold a8Y;rw[hr];simp[hnm,hlk,mkQ])
 have HR:=hid (a3Y s w hs hE);rw[hr]at HR;have hbw:=hC.1;have hte:=isE_not hnm;go_enter func141,ntmps141;go_wp2_with fail;refine HR.out.mono ?_;rintro e w1 ⟨ao,n,cp,rfl,hO,hB1⟩;have hln:n=ps.length:=a6r hO;subst hln;have HB:Hid (Below w.heap.size w (w1.alloc (.cells #[.string ⟨nm.toArray⟩,.slice ao ps.length cp] 255))):=hid (hB1.alloc hB1.size _);have HC:=hid (hC.next HB.out);have c0:=HC.out.2.2 0 _ rfl;have c1:=HC.out.2.2 1 _ rfl;have hcl:=HC.out.1;obtain ⟨cq,hrun⟩:=(hNm.next HB.out.drew).look nm (by unfold maxLen;omega)
 rw[hlk]at hrun;simp only[Option.isSome]at hrun;obtain ⟨pa0,pn0,pc0,hv0,_⟩:=a1R hown;subst hv0;have hpl:=a6r hown;subst hpl;have HL:Hid (CellsAt w1.heap.size [.string ⟨nm.toArray⟩,.slice ao ps.length cp] (w1.alloc (.cells #[.string ⟨nm.toArray⟩,.slice ao ps.length cp] 255)).drew):=hid ((CellsAt.new w1 [.string ⟨nm.toArray⟩,.slice ao ps.length cp] 255).next ((Below.refl _ _).drew));have HO:=hid (a1K (a1K hO ((Below.refl _ _).alloc (Nat.le_refl _) (.cells #[.string ⟨nm.toArray⟩,.slice ao ps.length cp] 255))) ((Below.refl _ _).drew));have HBD:=hid HB.out.drew;have hb1:b<w1.heap.size:=by have:=hB1.size;omega
 have hw1:w.heap.size<=w1.heap.size:=hB1.size;clear hB1 HR hE;go_wp2_with fail;go_region
 all_goals
  go_wp2_with fail;generalize (w1.alloc (.cells #[.string ⟨nm.toArray⟩,.slice ao ps.length cp] 255)).drew=W2 at *;obtain ⟨w3,hput,hNm3,hgr⟩:=(hNm.next HBD.out.drew).put nm (by unfold maxLen;omega) l.length (by omega) hN hlk
  have HB2:=hid HBD.out.drew;have hC2:=hC.next HBD.out;have d0:=hC2.2.2 0 _ rfl;have d1:=hC2.2.2 1 _ rfl;have e0:=HL.out.2.2 0 _ rfl;have hbl:=hC2.1;have hll:=HL.out.1;have HG:=hid hgr;have HN3:=hid hNm3;have HL2:=hid (HL.out.next ((Below.refl _ _).drew));have HO2:=hid (a1K HO.out ((Below.refl _ _).drew));clear hgr hNm3 hrun;go_region
  all_goals
   have hmw:mb<w.heap.size:=hNm.lt;have hw3:W2.heap.size<=w3.heap.size:=HG.out.size;have hww:w.heap.size<=W2.heap.size:=HB2.out.size;(have HC3:Hid (CellsAt b [.slice pa0 l.length pc0,.map (some mb)] w3):=hid (((hC.next HB2.out)).keeps (a3c.of_grown (c:=mb) HG.out) (fun e=>hmb e.symm) (fun e=>by injection e with e;exact hmb e)));(have HL3:Hid (CellsAt w1.heap.size [.string ⟨nm.toArray⟩,.slice ao ps.length cp] w3):=hid (HL2.out.keeps (a3c.of_grown (c:=mb) HG.out) (by omega) (fun e=>by injection e with e;omega)));(have HO3:=hid (a0u HO2.out (w':=w3) (fun g hg=>HG.out.block g (HO2.out.lt g hg).2 (fun e=>by injection e with e;have:=(HO2.out.lt g hg).1;omega))));(have HROW:=hid (fun h=>b06 HO3.out h));(have HW3:Hid (w3.ownsRow base 202 9 (.slice pa0 l.length pc0) l.length (l.flatMap Pn.qtC)):=hid (a0u (a1K hown HB2.out) (fun g hg=>HG.out.block g ((a1K hown HB2.out).lt g hg).2 (fun e=>hvm (by rw[hg,<-e])))));(have HAS:Hid (AS b base mb w3 (.slice pa0 l.length pc0) (b3n l ps number 0) (l.length+0) (.slice pa0 l.length pc0) w3):=hid ⟨HC3.out,by rw[b2c];exact HW3.out,hne,a3c.refl _ _ _,.inl rfl⟩);have HVG:Hid (∀g,w.heap.size<=g->(Value.slice pa0 l.length pc0).ownBlock≠some g):=hid (fun g hg e=>by have:=(hown.lt g e).2;omega)
   have HEND:Hid (∀j v' wr,AS b base mb w3 (.slice pa0 l.length pc0) (b3n l ps number j) (l.length+j) v' wr->j=ps.length->c0C b base mb (.slice pa0 l.length pc0) (0,l++ps.map (mkQ number),N++[(nm,l.length)]) w (.returned (.int .i64 0)) wr):=hid (fun j v' wr h hj=>
    b5k (Nat.le_trans hww hw3) (HG.out.os.trans HB2.out.os) (HG.out.tape.trans HB2.out.tape) (HG.out.output.trans HB2.out.output) (fun k hk hkm=>(HG.out.block k (Nat.lt_of_lt_of_le hk hww) (fun e=>hkm (by injection e))).trans (HB2.out.block k hk)) HN3.out hmb hvm h hj)
   have l1:=HL3.out.2.2 1 _ rfl;have hl3:=HL3.out.1;have hWs:w.heap.size<=w3.heap.size:=Nat.le_trans hww hw3;clear hput d0 d1 e0 hC2;go_wp2_with fail;(go_loopw [49] (fun k wr=>∃(j:Nat) (v':Value),j<=ps.length/\k=.int .i64 j/\AS b base mb w3 (.slice pa0 l.length pc0) (b3n l ps number j) (l.length+j) v' wr) (fun k _=>ps.length-(intOf k).toNat));case atStart=>exact ⟨0,.slice pa0 l.length pc0,Nat.zero_le _,rfl,HAS.out⟩
   case round=>
    obtain ⟨j,v',hj,rfl,hA⟩:=hrel;by_cases hlt:j<ps.length
    ·obtain ⟨x,hx⟩:∃x,ps[j]?=some x:=⟨_,List.getElem?_eq_getElem hlt⟩
     (obtain ⟨g,rfl,hg1,hg2,hat0⟩:=HROW.out (by omega));(have hblk:=hA.k.block g hg2 (by omega) (HVG.out g hg1));have HQS:=hid (b07 l ps number j x hx);obtain ⟨data,⟨op,rd,rs1,rs2,imm⟩,tg⟩:=x;have p0:=(World.cell?_of_block (a:=⟨g,j*7+0,none⟩) hblk).trans (hat0 j _ hx 0 _ rfl);have p1:=(World.cell?_of_block (a:=⟨g,j*7+1,none⟩) hblk).trans (hat0 j _ hx 1 _ rfl);have p2:=(World.cell?_of_block (a:=⟨g,j*7+2,none⟩) hblk).trans (hat0 j _ hx 2 _ rfl);have p3:=(World.cell?_of_block (a:=⟨g,j*7+3,none⟩) hblk).trans (hat0 j _ hx 3 _ rfl);have p4:=(World.cell?_of_block (a:=⟨g,j*7+4,none⟩) hblk).trans (hat0 j _ hx 4 _ rfl);have p5:=(World.cell?_of_block (a:=⟨g,j*7+5,none⟩) hblk).trans (hat0 j _ hx 5 _ rfl);have p6:=(World.cell?_of_block (a:=⟨g,j*7+6,none⟩) hblk).trans (hat0 j _ hx 6 _ rfl);simp only[Nat.add_zero]at p0 p1 p2 p3 p4 p5 p6;have hgl:g<wr.heap.size:=Nat.lt_of_lt_of_le hg2 hA.k.size;(have hji:(j:Int)<ps.length:=by omega);have HA:=hid hA;clear hA hblk hat0;go_wp2_with fail;have HBV:Hid (Below wr.heap.size wr (wr.alloc (.cells #[.string ⟨data.toArray⟩,.int .i64 op,.int .i64 rd,.int .i64 rs1,.int .i64 rs2,.int .i64 imm,.string ⟨tg.toArray⟩] 193))):=hid ((Below.refl _ _).alloc (Nat.le_refl _) _);have HCV:=hid (HA.out.c.next HBV.out);have HOV:=hid (a1K HA.out.o HBV.out);have HN:Hid (CellsAt wr.heap.size (a3j ⟨data,⟨op,rd,rs1,rs2,imm⟩,tg⟩) (wr.alloc (.cells #[.string ⟨data.toArray⟩,.int .i64 op,.int .i64 rd,.int .i64 rs1,.int .i64 rs2,.int .i64 imm,.string ⟨tg.toArray⟩] 193))):=hid (CellsAt.new wr (a3j ⟨data,⟨op,rd,rs1,rs2,imm⟩,tg⟩) 193);have hwz:=HBV.out.size;have hkz:=HA.out.k.size;have hvb:=HA.out.ne;clear p0 p1 p2 p3 p4 p5 p6 hgl;generalize wr.alloc (.cells #[.string ⟨data.toArray⟩,.int .i64 op,.int .i64 rd,.int .i64 rs1,.int .i64 rs2,.int .i64 imm,.string ⟨tg.toArray⟩] 193)=V at *;have p0:=HN.out.2.2 0 _ rfl;have p1:=HN.out.2.2 1 _ rfl;have p2:=HN.out.2.2 2 _ rfl;have p3:=HN.out.2.2 3 _ rfl;have p4:=HN.out.2.2 4 _ rfl;have p5:=HN.out.2.2 5 _ rfl;have p6:=HN.out.2.2 6 _ rfl;simp only at p1 p2 p3 p4 p5;have pl:=HN.out.1;have c0:=HCV.out.2.2 0 _ rfl;have cf:=HCV.out.2.1 0;have hbW:=HCV.out.1;have hbaseW:base<=V.heap.size:=by omega
     go_region_law
      ((refine step_append_lies _ (by rfl) _ _ _ (by rfl) base 202 i0 _ 9 88 underlying145 hi hz0 hz1 hz2 rfl (by omega) v' (l.length+j) (b3n l ps number j) (by rfl) ((HOV.out.alloc _).drew)
          ⟨V.heap.size,0,none⟩ 1 1 (Pn.qtC (mkQ number ⟨data,⟨op,rd,rs1,rs2,imm⟩,tg⟩)) (by rfl) (by rfl) (World.news_of_block (cs:=(Pn.qtC (mkQ number ⟨data,⟨op,rd,rs1,rs2,imm⟩,tg⟩)).toArray) (t:=202) (fr:=(0,0)) (heap_alloc_new V _)) (by simp[Value.oneCell',mkQ,Pn.qtC,a3j])
          (by omega) (by unfold maxLen;omega) (by omega) (by simp;omega) (V.heap.size+1) (by simp) ?_;intro gg cap w9 hown9 hgrow hat hlt;have q1:w9.cell? ⟨b,0,none⟩=some v':=(hgrow.cell_far _ (by simp;omega) (Ne.symm hvb)).trans (by simp[c0,World.cell?_alloc_some]);have qf:w9.frozen? ⟨b,0,none⟩=false:=(hgrow.frozen_far _ (by simp;omega) (Ne.symm hvb)).trans (by simp[cf,World.frozen?_alloc_old,Nat.ne_of_lt hbW])))
     all_goals
      have HOUT:=hid (b7e HA.out HBV.out hgrow hat hown9);clear hown9 hgrow hat q1 qf hlt;generalize w9.setCell ⟨b,0,none⟩ _=Z at *;go_wp2_with fail;go_roundw;(case rel=>exact ⟨j+1,_,by omega,by go_num,by rw[HQS.out];exact HOUT.out⟩);case measure=>simp[intOf];omega
    ·have hjn:j=ps.length:=by omega
     have HA:=hid hA;clear hA;go_wp2_with fail;go_ret;rw[HV.out];exact HEND.out j v' wr HA.out hjn
end Go.Proofs.YtbmcofdodfcnnaaGreatDoor
namespace Pn
open Go
def a89 (ss:List (List UInt8)) (j:Nat):Int:=(a8Y (ss.getD j []) (j+1) (a1G ss j).1 (a1G ss j).2).1
def b27 (l:List Qt) (N:List (List UInt8×Nat)) (k:Nat):Bool:=match l[k]? with|some x=>!x.p.tg.isEmpty&&(N.lookup x.p.tg).isNone|none=>false
def rdP (ss:List (List UInt8)):Int×Int×List Qt×List (List UInt8×Nat):=
 match (List.range ss.length).find? (fun j=>!(a89 ss j==0)) with
 | some j=>(a89 ss j,j+1,[],[])
 | none=>match (List.range (a1G ss ss.length).1.length).find? (b27 (a1G ss ss.length).1 (a1G ss ss.length).2) with
  | some k=>(7,(match (a1G ss ss.length).1[k]? with|some x=>x.line|none=>0),[],[])
  | none=>(0,0,(a1G ss ss.length).1,(a1G ss ss.length).2)
end Pn
namespace Go.Proofs.YtbmcofdodfcnnaaGreatDoor
open Pn
open Go.Proofs.Tryz
open Go.RowKit Go.Maps
theorem c3I (b base mb j:Nat) (s:ByteArray) (number:Int) (v:Value) (l:List Pn.Qt) (N:List (List UInt8×Nat)) (w:World) (hC:CellsAt b [v,.map (some mb)] w) (hown:w.ownsRow base 202 9 v l.length (l.flatMap Pn.qtC)) (hne:v.ownBlock≠some b) (hvm:v.ownBlock≠some mb) (hmb:mb≠b) (hbase:base<=w.heap.size) (hNm:a8W mb N w) (hR:c5k j l N) (hj:j<=100000) (hs:s.size<=2000) (hE:Env w):
    Calls prog 141 #[.pointer (some ⟨b,0,none⟩),.string s,.int .i64 number] w fun e w'=>c0C b base mb v (a8Y s.data.toList number l N) w e w':=by
 obtain ⟨h1,h2,_⟩:=b47 s.data.toList;have hl:=hR.len;have hn:=hR.nl;generalize hX:a0F s.data.toList=X at *;obtain ⟨nm,ps,er⟩:=X;simp only at h1 h2;by_cases her:er=0
 ·subst her
  by_cases hnm:nm=[]
  ·subst hnm
   exact b5G b base mb s number v l N w hC hown hne hvm hmb hbase hNm (by omega) hs hE ps (by omega) hX
  ·cases hlk:N.lookup nm with
   | none=>exact b5S b base mb s number v l N w hC hown hne hvm hmb hbase hNm (by omega) hs hE nm hnm (by omega) (by omega) ps (by omega) hX hlk
   | some q=>exact b5z b base mb s number v l N w hC hown hne hvm hmb hbase hNm (by omega) hs hE nm hnm (by omega) ps hX (by rw[hlk];rfl)
 ·exact c1a b base mb s number v l N w hC hown hne hvm hmb hbase hNm (by omega) hs hE er (by rw[hX]) her
structure RQ (w0:World) (ss:List Value) (l:List Pn.Qt) (N:List (List UInt8×Nat)) (v:Value) (w:World):Prop where
 r:CellsAt w0.heap.size [.slice none 0 0,.map none] w
 e:CellsAt (w0.heap.size+1) [.int .i64 0,.int .i64 0] w
 m:a8W (w0.heap.size+2) N w
 p:CellsAt (w0.heap.size+3) [v,.map (some (w0.heap.size+2))] w
 s:CellsAt (w0.heap.size+4) ss w
 o:w.ownsRow (w0.heap.size+5) 202 9 v l.length (l.flatMap Pn.qtC)
 b:Below w0.heap.size w0 w
theorem RQ.next {w0:World} {ss:List Value} {l:List Pn.Qt} {N:List (List UInt8×Nat)} {v:Value} {w w':World} (h:RQ w0 ss l N v w) (hB:Below w.heap.size w w'):RQ w0 ss l N v w':=
 ⟨h.r.next hB,h.e.next hB,h.m.next hB,h.p.next hB,h.s.next hB,a1K h.o hB,h.b.trans (hB.mono h.b.size)⟩
theorem a38 {b:Nat} {vs:List Value} {w w':World} (h:CellsAt b vs w) (hs:w.heap.size<=w'.heap.size) (e:w'.heap[b]?=w.heap[b]?):CellsAt b vs w':=
 ⟨Nat.lt_of_lt_of_le h.1 hs,fun q=>(World.frozen?_of_block (a:=⟨b,q,none⟩) e).trans (h.2.1 q),fun j u hj=>(World.cell?_of_block (a:=⟨b,j,none⟩) e).trans (h.2.2 j u hj)⟩
theorem RQ.more {w0:World} {ss:List Value} {l:List Pn.Qt} {N:List (List UInt8×Nat)} {v:Value} {r:Int×List Pn.Qt×List (List UInt8×Nat)} {w w':World} {e:Ending} (h:RQ w0 ss l N v w) (ha:c0C (w0.heap.size+3) (w0.heap.size+5) (w0.heap.size+2) v r w e w'):
    ∃v',RQ w0 ss r.2.1 r.2.2 v' w':=by
 obtain ⟨_,v',hp,ho,hne,hnm,hown,hos,htp,hou,hsz,hblk⟩:=ha;have hv:∀d,d<w0.heap.size+5->v.ownBlock≠some d:=fun d hd e=>by have:=(h.o.lt d e).1;omega
 have hs4:=h.s.1;refine ⟨v',a38 h.r hsz (hblk _ h.r.1 (by omega) (by omega) (hv _ (by omega))),a38 h.e hsz (hblk _ h.e.1 (by omega) (by omega) (hv _ (by omega))),hnm,hp,a38 h.s hsz (hblk _ h.s.1 (by omega) (by omega) (hv _ (by omega))),ho,?_⟩
 have hb:=h.b;exact ⟨hos.trans hb.os,htp.trans hb.tape,hou.trans hb.output,Nat.le_trans hb.size hsz,fun k hk=>(hblk k (by have:=hb.size;omega) (by omega) (by omega) (hv k (by omega))).trans (hb.block k hk)⟩
theorem c1p (w:World) (ss:List Value):RQ w ss [] [] (.slice none 0 0) (((((w.alloc (.cells #[.slice none 0 0,.map none] 148)).alloc (.cells #[.int .i64 0,.int .i64 0] 39)).alloc (.map #[] 0)).alloc (.cells #[.slice none 0 0,.map (some (w.heap.size+1+1))] 148)).alloc (.cells ss.toArray 9)):=by
 have h1:=CellsAt.new w [.slice none 0 0,.map none] 148;have h2:=CellsAt.new (w.alloc (.cells #[.slice none 0 0,.map none] 148)) [.int .i64 0,.int .i64 0] 39;have h3:=World.ownsMap_made (H:=Unit) ((w.alloc (.cells #[.slice none 0 0,.map none] 148)).alloc (.cells #[.int .i64 0,.int .i64 0] 39)) prog 9 (plainElem prog 3);have h4:=CellsAt.new (((w.alloc (.cells #[.slice none 0 0,.map none] 148)).alloc (.cells #[.int .i64 0,.int .i64 0] 39)).alloc (.map #[] 0)) [.slice none 0 0,.map (some (w.heap.size+1+1))] 148;have h5:=CellsAt.new ((((w.alloc (.cells #[.slice none 0 0,.map none] 148)).alloc (.cells #[.int .i64 0,.int .i64 0] 39)).alloc (.map #[] 0)).alloc (.cells #[.slice none 0 0,.map (some (w.heap.size+1+1))] 148)) ss 9;simp only[World.size_alloc]at h2 h3 h4 h5;exact ⟨(((h1.alloc _).alloc _).alloc _).alloc _,((h2.alloc _).alloc _).alloc _,⟨0,.map [],Nat.le_refl _,(h3.alloc _).alloc _,fun key=>⟨rfl,fun v hv=>by cases hv⟩⟩,h4.alloc _,h5,World.ownsRow_nil _ _ _ _,(c6j w _ _ _ _).alloc (by simp only[World.size_alloc];omega) _⟩
def c6P (r:Int×Int×List Pn.Qt×List (List UInt8×Nat)) (w:World) (e:Ending) (w':World):Prop:=
 ∃ao n cp mo,e=.returned (.tuple #[.agg #[.slice ao n cp,.map mo],.agg #[.int .i64 r.1,.int .i64 r.2.1]])/\Below w.heap.size w w'/\
  (r.1=0->∃mb,mo=some mb/\w.heap.size<=mb/\a8W mb r.2.2.2 w'/\w'.ownsRow w.heap.size 202 9 (.slice ao n cp) r.2.2.1.length (r.2.2.1.flatMap Pn.qtC)/\(Value.slice ao n cp).ownBlock≠some mb)
theorem b19 {er ln:Int} {l:List Pn.Qt} {N:List (List UInt8×Nat)} {w w':World} (hB:Below w.heap.size w w') (h:er≠0):c6P (er,ln,l,N) w (.returned (.tuple #[.agg #[.slice none 0 0,.map none],.agg #[.int .i64 er,.int .i64 ln]])) w':=
 ⟨_,_,_,_,rfl,hB,fun e=>absurd e h⟩
theorem b7p {w:World} {base:Nat} {ao:Option Addr} {ln cp:Nat} {l:List Pn.Qt} (h:w.ownsRow base 202 9 (.slice ao ln cp) l.length (l.flatMap Pn.qtC)) (hn:0<l.length):
    ∃g,ao=some ⟨g,0,none⟩/\base<=g/\g<w.heap.size/\(∀q,w.frozen? ⟨g,q,none⟩=false)/\∀k x,l[k]?=some x->∀j u,(Pn.qtC x)[j]?=some u->w.cell? ⟨g,k*9+j,none⟩=some u:=by
 have h':=h;obtain ⟨h1,⟨hv,h0⟩|⟨g,cap,cur,hv,hg,hc,h3⟩⟩:=h
 ·omega
 ·simp at hv
  obtain ⟨rfl,rfl,rfl⟩:=hv;refine ⟨g,rfl,hg,(h'.lt g rfl).2,fun q=>h'.frozenAt q,fun k x hk j u hu=>?_⟩
  have hkl:k<l.length:=(a2e hk).2
  have hj:j<9:=by
   have:=(List.getElem?_eq_some_iff.1 hu).1;simpa[Pn.qtC,a3j] using this
  have hf:=a1j Pn.qtC 9 (fun _=>rfl) l k j hj hkl
  rw[hk]at hf;simp only[Option.bind_some]at hf;have:=h'.cells (g:=g) rfl (9*k+j) _ (hf.trans hu)
  have e:(⟨g,0,none⟩:Addr).add (9*k+j)=⟨g,k*9+j,none⟩:=by
   simp only[Addr.add];rw[Nat.mul_comm 9 k];simp;omega
  rw[e]at this;exact this
theorem a8K (s:ByteArray) (ls:List ByteArray) (w:World) (hE:Env w) (hs:s.size<=2000) (hls:Lib.splitB ⟨#[10]⟩ 0 (Lib.countB s ⟨#[10]⟩) s=ls) (hlz:∀t∈ls,t.size<=2000):
    Calls prog 79 #[.string s] w fun e w'=>c6P (Pn.rdP (ls.map (·.data.toList))) w e w':=by
 have hll:Lib.countB s ⟨#[10]⟩+1=ls.length:=by rw[<-hls,Lib.splitB_all ⟨#[10]⟩ (by decide) 0 _ s rfl]
 have hmm:=@run_makeMap prog;have HSP:=hid (fun W m hm=>Tryz.strings_Split s ⟨#[10]⟩ m W (by omega) hm (by decide))
 rw[hls,hll]at HSP;have HEW:=hid (fun w' (hB:Below w.heap.size w w')=>hE.below hB hE.1)
 have hn0:ls.length<=2001:=by
  have:=Lib.countB_mul_le ⟨#[10]⟩ (by decide) _ s (Nat.le_refl _)
  have e1:(⟨#[10]⟩:ByteArray).size=1:=rfl;rw[e1]at this;omega
 have HLZ:=hid hlz;have HSS:Hid (∀(j:Nat) (t:ByteArray),ls[j]?=some t->(ls.map (·.data.toList)).getD j []=t.data.toList):=hid (fun j t h=>by simp[List.getD,h])
 have HSL:Hid ((ls.map (·.data.toList)).length=ls.length):=hid (by simp)
 obtain ⟨m,hm0⟩:=hE.2.2.1;have hg0:=hE.1;have HRD:Hid (Pn.rdP (ls.map (·.data.toList))=Pn.rdP (ls.map (·.data.toList))):=hid rfl
 generalize hSS:ls.map (·.data.toList)=ss at HSS HSL HRD
 have HS2:=hid hSS;clear hE hlz hSS HRD;go_enter func79,ntmps79;go_wp2_with fail;refine (HSP.out _ m ((c6j w _ _ _ _).cell (p:=⟨0,0,none⟩) (by show 0<w.heap.size;omega) |>.trans hm0)).mono ?_
 rintro e w1 ⟨rfl,hw1⟩
 have HR0:Hid (RQ w (ls.map Value.string) [] [] (.slice none 0 0) w1):=hid (by
  subst hw1;exact c1p w _)
 clear hw1 HSP hm0;go_wp2_with fail;go_loopw [17] (fun i wr=>∃(j:Nat) (v:Value),j<=ls.length/\i=.int .i64 (j:Nat)/\(∀k,k<j->a89 ss k=0)/\RQ w (ls.map Value.string) (a1G ss j).1 (a1G ss j).2 v wr) (fun i _=>ls.length-(intOf i).toNat)
 case atStart=>exact ⟨0,_,Nat.zero_le _,rfl,fun k hk=>by omega,HR0.out⟩
 case round=>
  obtain ⟨j,v,hj,rfl,hle,hR⟩:=hrel;have HLE:=hid hle;clear hle;by_cases hlt:j<ls.length
  ·obtain ⟨t,ht⟩:∃t,ls[j]?=some t:=⟨_,List.getElem?_eq_getElem hlt⟩
   have HR:=hid hR;(have cs:=hR.s.2.2 j (.string t) (by simp[ht]));have hsl:=hR.s.1;(have hji:(j:Int)<ls.length:=by omega);(have hji':(j:Int)<1000000:=by omega);have HA:=hid (c3I (w.heap.size+3) (w.heap.size+5) (w.heap.size+2) j t ((j:Int)+1) v (a1G ss j).1 (a1G ss j).2 wr hR.p hR.o (fun e=>by have:=(hR.o.lt _ e).1;omega) (fun e=>by have:=(hR.o.lt _ e).1;omega) (by omega) (by have:=hR.s.1;omega) hR.m (a7F ss j) (by omega) (HLZ.out t (List.mem_of_getElem? ht)) (HEW.out wr hR.b))
   have HAP:Hid (a8Y t.data.toList ((j:Int)+1) (a1G ss j).1 (a1G ss j).2=(a89 ss j,a1G ss (j+1))):=hid (by
    unfold a89;rw[a1G,HSS.out j t ht])
   rw[HAP.out]at HA;clear hR ht HAP;go_wp2_with fail;refine HA.out.mono ?_;rintro e w2 hout;obtain ⟨v',hR'⟩:=HR.out.more hout;obtain ⟨rfl,_⟩:=hout;have HR':=hid hR';clear hR' HA;by_cases her:a89 ss j=0
   ·have HLE':Hid (∀k,k<j+1->a89 ss k=0):=hid (fun k hk=>by
     rcases Nat.lt_or_ge k j with h|h
     ·exact HLE.out k h
     ·have:k=j:=by omega
      rw[this];exact her)
    rw[her];go_wp2_with fail;go_roundw;(case rel=>exact ⟨j+1,v',by omega,by go_num,HLE'.out,HR'.out⟩);case measure=>simp[intOf];omega
   ·have HV:Hid (Pn.rdP ss=(a89 ss j,(j:Int)+1,[],[])):=hid (by
     unfold Pn.rdP;rw[a6u (n:=ss.length) (by rw[HSL.out];exact hlt) (fun k hk=>by rw[HLE.out k hk];rfl) (by simpa using her)])
    generalize a89 ss j=er at *;(have hbn:(er != 0)=true:=by simpa using her);(have hbb:(er==0)=false:=by simpa using her);have r0:=HR'.out.r.2.2 0 _ rfl;have r1:=HR'.out.r.2.2 1 _ rfl;have rf:=HR'.out.r.2.1;have rl:=HR'.out.r.1;have e0:=HR'.out.e.2.2 0 _ rfl;have e1:=HR'.out.e.2.2 1 _ rfl;have ef:=HR'.out.e.2.1;have el:=HR'.out.e.1;have HB:=hid HR'.out.b;clear HR' HR HSS;go_wp2_with fail;(refine bodyPost_ret (v:=.tuple #[.agg #[.slice none 0 0,.map none],.agg #[.int .i64 er,.int .i64 ((j:Int)+1)]]) (by simp[results,results79,go_sem,r0,r1,e0,e1]) rfl ?_);rw[HV.out];exact b19 ((((HB.out.setCell (by simp) _).setCell (by simp) _).setCell (by simp) _).setCell (by simp) _) her
  ·have hjn:j=ls.length:=by omega
   subst hjn
   have HV0:Hid (Pn.rdP ss=match (List.range (a1G ss ss.length).1.length).find? (b27 (a1G ss ss.length).1 (a1G ss ss.length).2) with
    | some k=>(7,(match (a1G ss ss.length).1[k]? with|some x=>x.line|none=>0),[],[])
    | none=>(0,0,(a1G ss ss.length).1,(a1G ss ss.length).2)):=hid (by
    conv=>lhs;unfold Pn.rdP
    rw[a1I _ ss.length (fun k hk=>by rw[HLE.out k (by rw[<-HSL.out];exact hk)];rfl)]
    all_goals rfl)
   rw[HSL.out]at HV0;have HOK:=hid (a7F ss ls.length);generalize a1G ss ls.length=LN at *;obtain ⟨l,N⟩:=LN;simp only at hR HV0 HOK;have HR:=hid hR;obtain ⟨ao,ln,cp,hvv,_⟩:=a1R hR.o;subst hvv;have hln:=a6r hR.o;subst hln;have c0:=hR.p.2.2 0 _ rfl;have hpl:=hR.p.1;obtain ⟨wa,hwa⟩:∃x,x=wr:=⟨_,rfl⟩;subst hwa;have hlen:=HOK.out.len;clear hR;go_wp2_with fail;(go_loopw [37] (fun i wx=>∃j:Nat,j<=l.length/\i=.int .i64 j/\(∀k,k<j->b27 l N k=false)/\Below wa.heap.size wa wx) (fun i _=>l.length-(intOf i).toNat));case atStart=>exact ⟨0,Nat.zero_le _,rfl,fun k hk=>by omega,Below.refl _ _⟩
   case round=>
    obtain ⟨j,hj,rfl,hno,hB⟩:=hrel;have HNO:=hid hno;clear hno;by_cases hlt:j<l.length
    ·obtain ⟨x,hx⟩:∃x,l[j]?=some x:=⟨_,List.getElem?_eq_getElem hlt⟩
     (obtain ⟨g,rfl,hg1,hgl,hfg,hat⟩:=b7p HR.out.o (by omega));have HRj:=hid (HR.out.next hB);have HBj:=hid hB;(have HNT:Hid (b27 l N j=(!x.p.tg.isEmpty&&(N.lookup x.p.tg).isNone)):=hid (by simp only[b27,hx]));have htl:=(HOK.out.pt x (List.mem_of_getElem? hx)).2.1;have HX:=hid hx;obtain ⟨⟨data,⟨op,rd,rs1,rs2,imm⟩,tg⟩,line,size⟩:=x;simp only at HNT htl;have gl:g<wr.heap.size:=Nat.lt_of_lt_of_le hgl hB.size;have p0:=(hB.cell (p:=⟨g,j*9+0,none⟩) hgl).trans (hat j _ hx 0 _ rfl);have p1:=(hB.cell (p:=⟨g,j*9+1,none⟩) hgl).trans (hat j _ hx 1 _ rfl);have p2:=(hB.cell (p:=⟨g,j*9+2,none⟩) hgl).trans (hat j _ hx 2 _ rfl);have p3:=(hB.cell (p:=⟨g,j*9+3,none⟩) hgl).trans (hat j _ hx 3 _ rfl);have p4:=(hB.cell (p:=⟨g,j*9+4,none⟩) hgl).trans (hat j _ hx 4 _ rfl);have p5:=(hB.cell (p:=⟨g,j*9+5,none⟩) hgl).trans (hat j _ hx 5 _ rfl);have p6:=(hB.cell (p:=⟨g,j*9+6,none⟩) hgl).trans (hat j _ hx 6 _ rfl);have p7:=(hB.cell (p:=⟨g,j*9+7,none⟩) hgl).trans (hat j _ hx 7 _ rfl);have p8:=(hB.cell (p:=⟨g,j*9+8,none⟩) hgl).trans (hat j _ hx 8 _ rfl);simp only[Nat.add_zero]at p0 p1 p2 p3 p4 p5 p6 p7 p8;(have hji:(j:Int)<l.length:=by omega);have c1:=HRj.out.p.2.2 1 _ rfl;have hpl2:=HRj.out.p.1;have HB2:=hid (HBj.out.alloc HBj.out.size (.cells #[.string ⟨data.toArray⟩,.int .i64 op,.int .i64 rd,.int .i64 rs1,.int .i64 rs2,.int .i64 imm,.string ⟨tg.toArray⟩,.int .i64 line,.int .i64 size] 202));(obtain ⟨cq,hrun⟩:=(HRj.out.m.next ((Below.refl _ _).alloc (Nat.le_refl _) (.cells #[.string ⟨data.toArray⟩,.int .i64 op,.int .i64 rd,.int .i64 rs1,.int .i64 rs2,.int .i64 imm,.string ⟨tg.toArray⟩,.int .i64 line,.int .i64 size] 202))).look tg (by unfold maxLen;omega));clear hB hx c0 hat hfg;by_cases ht:tg=[]
     ·subst ht
      have HNJ:Hid (∀k,k<j+1->b27 l N k=false):=hid (fun k hk=>by
       rcases Nat.lt_or_ge k j with h|h
       ·exact HNO.out k h
       ·have:k=j:=by omega
        rw[this,HNT.out];rfl)
      go_wp2_with fail;go_roundw;(case rel=>exact ⟨j+1,by omega,by go_num,HNJ.out,HB2.out⟩);case measure=>simp[intOf];omega
     ·have hte:=isE_not ht
      cases hlk:N.lookup tg with
      | some q=>
       rw[hlk]at hrun HNT;simp only[Option.isSome]at hrun
       have HNJ:Hid (∀k,k<j+1->b27 l N k=false):=hid (fun k hk=>by
        rcases Nat.lt_or_ge k j with h|h
        ·exact HNO.out k h
        ·have:k=j:=by omega
         rw[this,HNT.out];simp)
       clear hlk;go_wp2_with fail;go_roundw;(case rel=>exact ⟨j+1,by omega,by go_num,HNJ.out,HB2.out⟩);case measure=>simp[intOf];omega
      | none=>
       rw[hlk]at hrun HNT;simp only[Option.isSome]at hrun
       have HV:Hid (Pn.rdP ss=(7,line,[],[])):=hid (by
        (rw[HV0.out,a6u hlt HNO.out (by rw[HNT.out,hte];rfl)]);simp only[HX.out])
       have HRk:=hid (HRj.out.next ((Below.refl _ _).alloc (Nat.le_refl _) (.cells #[.string ⟨data.toArray⟩,.int .i64 op,.int .i64 rd,.int .i64 rs1,.int .i64 rs2,.int .i64 imm,.string ⟨tg.toArray⟩,.int .i64 line,.int .i64 size] 202)));have HBB:=hid HRk.out.b;clear hlk;go_wp2_with fail;have r0:=HRk.out.r.2.2 0 _ rfl;have r1:=HRk.out.r.2.2 1 _ rfl;have rf:=HRk.out.r.2.1;have rl:=HRk.out.r.1;have e0:=HRk.out.e.2.2 0 _ rfl;have e1:=HRk.out.e.2.2 1 _ rfl;have ef:=HRk.out.e.2.1;have el:=HRk.out.e.1;have k7:=(CellsAt.new wr [.string ⟨data.toArray⟩,.int .i64 op,.int .i64 rd,.int .i64 rs1,.int .i64 rs2,.int .i64 imm,.string ⟨tg.toArray⟩,.int .i64 line,.int .i64 size] 202).2.2 7 _ rfl;have kl:=(CellsAt.new wr [.string ⟨data.toArray⟩,.int .i64 op,.int .i64 rd,.int .i64 rs1,.int .i64 rs2,.int .i64 imm,.string ⟨tg.toArray⟩,.int .i64 line,.int .i64 size] 202).1;(have hne1:wr.heap.size≠w.heap.size:=by have:=HRj.out.r.1;omega);(have hne2:wr.heap.size≠w.heap.size+1:=by have:=HRj.out.e.1;omega);clear p0 p1 p2 p3 p4 p5 p6 p7 p8 hrun c1;generalize wr.alloc _=V at *;go_region
       all_goals
        go_wp2_with fail;(refine bodyPost_ret (v:=.tuple #[.agg #[.slice none 0 0,.map none],.agg #[.int .i64 7,.int .i64 line]]) (by simp[results,results79,go_sem,r0,r1,e0,e1]) rfl ?_);rw[HV.out];exact b19 (((((HBB.out.setCell (by simp) _).setCell (by simp) _).setCell (by simp) _).setCell (by simp) _).drew) (by decide)
    ·have hjn:j=l.length:=by omega
     subst hjn;(have HV:Hid (Pn.rdP ss=(0,0,l,N)):=hid (by rw[HV0.out,a1I _ l.length HNO.out]));have HRj:=hid (HR.out.next hB);have y0:=HRj.out.p.2.2 0 _ rfl;have y1:=HRj.out.p.2.2 1 _ rfl;have r0:=HRj.out.r.2.2 0 _ rfl;have r1:=HRj.out.r.2.2 1 _ rfl;have rf:=HRj.out.r.2.1;have rl:=HRj.out.r.1;have e0:=HRj.out.e.2.2 0 _ rfl;have e1:=HRj.out.e.2.2 1 _ rfl;have ef:=HRj.out.e.2.1;have el:=HRj.out.e.1;clear hB c0;go_wp2_with fail;(refine bodyPost_ret (v:=.tuple #[.agg #[.slice ao l.length cp,.map (some (w.heap.size+2))],.agg #[.int .i64 0,.int .i64 0]]) (by simp[results,results79,go_sem,r0,r1,e0,e1]) rfl ?_);rw[HV.out];refine ⟨_,_,_,_,rfl,(((HRj.out.b.setCell (by simp) _).setCell (by simp) _).setCell (by simp) _).setCell (by simp) _,fun _=>⟨_,rfl,by omega,?_,?_,fun e=>by have:=(HRj.out.o.lt _ e).1;omega⟩⟩
     ·exact HRj.out.m.block (((Below.heap_setCell _ _ _ _ (fun e=>by have e':w.heap.size+2=w.heap.size+1:=e;omega)).trans (Below.heap_setCell _ _ _ _ (fun e=>by have e':w.heap.size+2=w.heap.size+1:=e;omega))).trans ((Below.heap_setCell _ _ _ _ (fun e=>by have e':w.heap.size+2=w.heap.size:=e;omega)).trans (Below.heap_setCell _ _ _ _ (fun e=>by have e':w.heap.size+2=w.heap.size:=e;omega))))
     ·exact a52 (a5D (a5D (a5D (a5D HRj.out.o _ _ _ (by omega)) _ _ _ (by omega)) _ _ _ (by omega)) _ _ _ (by omega)) (by omega)
