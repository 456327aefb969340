import Derived.Test.YtbmcofdodfcnnaaGreatDoorGLC
import Derived.Test.YtbmcofdodfcnnaaGreatDoorGAG
set_option linter.all false
set_option maxHeartbeats 400000000
set_option maxRecDepth 100000
namespace Go.Proofs.YtbmcofdodfcnnaaGreatDoor
open Pn
open Go.Proofs.Tryz
open Go.RowKit
theorem a5D {w:World} {base:Nat} {e:TypeId} {size m:Nat} {v:Value} {xs:List Value} (h:w.ownsRow base e size v m xs) (c q:Nat) (u:Value) (hc:c<base):(w.setCell ⟨c,q,none⟩ u).ownsRow base e size v m xs:=
 a0u h (fun k hk=>Below.heap_setCell _ _ _ _ (fun e=>by have h1:=(h.lt k hk).1;have e':k=c:=e;omega))
theorem c1U {w:World} {base:Nat} {e:TypeId} {size:Nat} {ao:Option Addr} {ln cp:Nat} {xs:List Value} (h:w.ownsRow base e size (.slice ao ln cp) 0 xs):ln=0:=by
 obtain ⟨_,⟨hv,_⟩|⟨g,cap,cur,hv,_⟩⟩:=h
 ·simp at hv;exact hv.2.1
 ·simp at hv;exact hv.2.1
theorem c74 (l c:List UInt8):(Lib.cut l c).1.length<=l.length:=by
 unfold Lib.cut;split
 ·simp;omega
 ·simp
theorem a9I {w2:World} {v:Value} {A:List Pn.Pc} {base:Nat} (hown:w2.ownsRow base 131 2 v A.length (A.flatMap a1D)) (hpos:0<A.length)
    (hlen:∀q∈A,q.2.length<=2000):∃g cap,v=.slice (some ⟨g,0,none⟩) A.length cap/\A.length<=cap/\base<=g/\g<w2.heap.size/\
     (∀k q,A[k]?=some q->w2.cell? ⟨g,k*2,none⟩=some (.int .i64 q.1)/\w2.cell? ⟨g,k*2+1,none⟩=some (.string ⟨q.2.toArray⟩))/\∀k,a3Z (some ⟨g,k*2,none⟩) (A.drop k) w2.heap.size w2:=by
 have hh:=hown;obtain ⟨_,h1|⟨g,cap,cur,hv,hg,hc,hle,_⟩⟩:=hown
 ·have:=h1.2;omega
 ·have hlt:g<w2.heap.size:=(hh.lt g (by rw[hv];rfl)).2
  have key:∀k j q,j<2->A[k]?=some q->w2.cell? ⟨g,k*2+j,none⟩=(a1D q)[j]?:=fun k j q hj hq=>by
   have hk:k<A.length:=by
    rcases Nat.lt_or_ge k A.length with h|h
    ·exact h
    ·rw[List.getElem?_eq_none h]at hq;cases hq
   (have hf:=a1j a1D 2 (fun _=>rfl) A k j hj hk);rw[hq]at hf;(have hx:(a1D q)[j]?=some ((a1D q)[j]'(by simp[a1D];omega)):=List.getElem?_eq_getElem _);simp only[Option.bind_some]at hf;(have:=hh.cells (g:=g) (by rw[hv];rfl) (2*k+j) _ (hf.trans hx));rw[hx,<-this]
   have e:(⟨g,0,none⟩:Addr).add (2*k+j)=⟨g,k*2+j,none⟩:=by
    simp only[Addr.add];rw[Nat.mul_comm 2 k];simp;omega
   rw[e]
  have at':∀k q,A[k]?=some q->w2.cell? ⟨g,k*2,none⟩=some (.int .i64 q.1)/\w2.cell? ⟨g,k*2+1,none⟩=some (.string ⟨q.2.toArray⟩):=fun k q hq=>⟨key k 0 q (by omega) hq,key k 1 q (by omega) hq⟩
  refine ⟨g,cap,by rw[hv],by simpa using hle,hg,hlt,at',fun k i q hi=>?_⟩
  have hi':A[k+i]?=some q:=by rw[<-hi];simp
  obtain ⟨e0,e1⟩:=at' (k+i) q hi';refine ⟨g,k*2,rfl,hlt,by omega,hlen q (List.mem_of_getElem? hi'),?_,?_⟩
  ·have:k*2+i*2=(k+i)*2:=by omega
   rw[this];exact e0
  ·have:k*2+i*2+1=(k+i)*2+1:=by omega
   rw[this];exact e1
structure LG (w0:World) (B:Nat) (name:List UInt8) (ao:Option Addr) (g o:Nat) (t:List UInt8) (l:List Pn.Pc) (W:World):Prop where
 env:Env W
 pcs:a3Z ao l W.heap.size W
 res:CellsAt w0.heap.size lz W
 ln:CellsAt B [.string ⟨name.toArray⟩,.slice none 0 0] W
 below:Below w0.heap.size w0 W
 lt:g<W.heap.size
 text:W.cell? ⟨g,o,none⟩=some (.string ⟨t.toArray⟩)
theorem LG.next {w0:World} {B g o:Nat} {name t:List UInt8} {ao:Option Addr} {l:List Pn.Pc} {W W':World} (h:LG w0 B name ao g o t l W) (hB:Below W.heap.size W W'):LG w0 B name ao g o t l W':=
 ⟨h.env.below hB h.env.1,h.pcs.move hB _ hB.size,h.res.next hB,h.ln.next hB,h.below.trans (hB.mono h.below.size),Nat.lt_of_lt_of_le h.lt hB.size,(hB.cell (p:=⟨g,o,none⟩) h.lt).trans h.text⟩
theorem LG.name {w0:World} {B g o:Nat} {t:List UInt8} {ao:Option Addr} {l:List Pn.Pc} {W w2:World} (h:LG w0 B [] ao g o t l W) (hB:Below W.heap.size W w2) (name:List UInt8) (h1:B≠w0.heap.size) (h2:B≠g) (h3:w0.heap.size<B) (hng:8<=w0.heap.size) (hpc:∀(i:Nat) (p:Pn.Pc),l[i]?=some p->∀gg oo,ao=some ⟨gg,oo,none⟩->gg≠B):
    LG w0 B name ao g o t l (w2.setCell ⟨B,0,none⟩ (.string ⟨name.toArray⟩)).drew:=by
 have h':=h.next hB;have hBB:Below B w2 (w2.setCell ⟨B,0,none⟩ (.string ⟨name.toArray⟩)).drew:=((Below.refl B w2).setCell (Nat.le_refl _) _).drew;have hk:a3c B none w2 (w2.setCell ⟨B,0,none⟩ (.string ⟨name.toArray⟩)).drew:=(a3c.setCell B none w2 0 _).trans (a3c.of_below ((Below.refl _ _).drew));have hw0:w0.heap.size<B:=h3;have hset:CellsAt B [.string ⟨name.toArray⟩,.slice none 0 0] (w2.setCell ⟨B,0,none⟩ (.string ⟨name.toArray⟩)):=h'.ln.set 0 _ (by simp)
 refine ⟨h'.env.below hBB (by have:=h'.env.1;have:=h.below.size;omega),?_,h'.res.keeps hk (fun e=>h1 e.symm) (by simp),hset,?_,Nat.lt_of_lt_of_le h'.lt hk.size,?_⟩
 ·intro i p hi
  obtain ⟨gg,oo,q1,q2,q3,q4,q5,q6⟩:=h'.pcs i p hi;have hgB:gg≠B:=hpc i p hi gg oo q1;have e:=hk.block gg q2 hgB (by simp)
  exact ⟨gg,oo,q1,Nat.lt_of_lt_of_le q2 hk.size,by have:=hk.size;omega,q4,(World.cell?_of_block (a:=⟨gg,_,none⟩) e).trans q5,(World.cell?_of_block (a:=⟨gg,_,none⟩) e).trans q6⟩
 ·exact hk.below h'.below (Nat.le_of_lt hw0) (fun _ h=>by cases h) (Nat.le_refl _)
 ·have e:=hk.block g h'.lt (fun e=>h2 e.symm) (by simp)
  exact (World.cell?_of_block (a:=⟨g,o,none⟩) e).trans h'.text
structure LQ (v:Value) (ps:List Pn.Prt) (lo:Nat) (W:World):Prop where
 o:W.ownsRow lo 193 7 v ps.length (ps.flatMap a3j)
theorem a1Z (nm:ByteArray) (cp:Nat) {w0:World} {B:Nat} {ao:Option Addr} {g o n:Nat} {name t:List UInt8} {l:List Pn.Pc} {W:World} (h:LG w0 B name ao g o t l W) (hn:l.length=n):
    Calls prog 227 #[.string nm,.slice ao n cp] W fun e w'=>∃ao' n' cp',e=.returned (.tuple #[.slice ao' n' cp',.int .i64 (Pn.rst nm l).2])/\LQ (.slice ao' n' cp') (Pn.rst nm l).1 W.heap.size w'/\LG w0 B name ao g o t l w':=by
 subst hn;exact (a68 nm l ao cp W h.env h.pcs).mono fun _ _ ⟨a,b,c,he,hO,hB⟩=>⟨a,b,c,he,⟨hO⟩,h.next hB⟩
def a86 (nm:List UInt8) (ps:List Pn.Prt) (er:Int) (w:World) (e:Ending) (w':World):Prop:=
 ∃ao n cp,e=.returned (.tuple #[.agg #[.string ⟨nm.toArray⟩,.slice ao n cp],.int .i64 er])/\w'.ownsRow w.heap.size 193 7 (.slice ao n cp) ps.length (ps.flatMap a3j)/\Below w.heap.size w w'
theorem a1E {nm:List UInt8} {er:Int} {w w':World} (hB:Below w.heap.size w w'):a86 nm [] er w (.returned (.tuple #[.agg #[.string ⟨nm.toArray⟩,.slice none 0 0],.int .i64 er])) w':=⟨_,_,_,rfl,World.ownsRow_nil _ _ _ _,hB⟩
theorem a9A {w w1 W w':World} {ao ao':Option Addr} {g o g' o':Nat} {name t t':List UInt8} {l l':List Pn.Pc} {ps:List Pn.Prt} {a:Option Addr} {n cp:Nat} (h0:LG w w1.heap.size name ao g o t l W) (h:LG w w1.heap.size name ao' g' o' t' l' w') (hp:LQ (.slice a n cp) ps W.heap.size w') (hw:w.heap.size<w1.heap.size) (x y z:Value):
    (((w'.setCell ⟨w1.heap.size,1,none⟩ x).setCell ⟨w.heap.size,0,none⟩ y).setCell ⟨w.heap.size,1,none⟩ z).ownsRow w.heap.size 193 7 (.slice a n cp) ps.length (ps.flatMap a3j)/\Below w.heap.size w (((w'.setCell ⟨w1.heap.size,1,none⟩ x).setCell ⟨w.heap.size,0,none⟩ y).setCell ⟨w.heap.size,1,none⟩ z):=by
 have h1:=h0.below.size;have h2:=h0.ln.1;exact ⟨a52 (a5D (a5D (a5D hp.o _ _ _ (by omega)) _ _ _ (by omega)) _ _ _ (by omega)) h1,((h.below.setCell (Nat.le_of_lt hw) _).setCell (Nat.le_refl _) _).setCell (Nat.le_refl _) _⟩
theorem a9U (s:ByteArray) (w:World) (hs:s.size<=2000) (hE:Env w) (hcut:a1d (Lib.cut s.data.toList [35]).1 0 []=none):
    Calls prog 193 #[.string s] w fun e w'=>a86 (a0F s.data.toList).1 (a0F s.data.toList).2.1 (a0F s.data.toList).2.2 w e w':=by
 have HV:Hid (a0F s.data.toList=([],[],4)):=hid (by unfold a0F;rw[hcut])
 have HC:=hid (a50 s (w.alloc (.cells #[.string ⟨#[]⟩,.slice none 0 0] 255)) hs (hE.below ((Below.refl _ _).alloc (Nat.le_refl _) _) hE.1));rw[hcut]at HC;go_enter func193,ntmps193;go_wp2_with fail;refine HC.out.mono ?_;rintro e w1 ⟨rfl,hB1⟩;have HR:=hid ((CellsAt.new w lz 255).next hB1);have s0:=HR.out.2.2 0 _ rfl;have s1:=HR.out.2.2 1 _ rfl;have sf:=HR.out.2.1;have hw1:=HR.out.1;have HB1:=hid (((Below.refl w.heap.size w).alloc (Nat.le_refl _) _).trans (hB1.mono (by simp)))
 clear hB1 HC HR;go_wp2_with fail;refine bodyPost_ret (v:=.tuple #[.agg #[.string ⟨#[]⟩,.slice none 0 0],.int .i64 4]) (by simp[results,results193,go_sem,s0,s1]) rfl ?_
 rw[HV.out];exact a1E ((HB1.out.setCell (Nat.le_refl _) _).setCell (Nat.le_refl _) _)
theorem b1S (s:ByteArray) (w:World) (hs:s.size<=2000) (hE:Env w) (hcut:a1d (Lib.cut s.data.toList [35]).1 0 []=some []):
    Calls prog 193 #[.string s] w fun e w'=>a86 (a0F s.data.toList).1 (a0F s.data.toList).2.1 (a0F s.data.toList).2.2 w e w':=by
 have HV:Hid (a0F s.data.toList=([],[],0)):=hid (by unfold a0F;rw[hcut];rfl)
 have HC:=hid (a50 s (w.alloc (.cells #[.string ⟨#[]⟩,.slice none 0 0] 255)) hs (hE.below ((Below.refl _ _).alloc (Nat.le_refl _) _) hE.1));rw[hcut]at HC;go_enter func193,ntmps193;go_wp2_with fail;refine HC.out.mono ?_;rintro e w1 ⟨⟨v,rfl,hown⟩,hB1⟩;obtain ⟨ao,ln,cp,rfl,_⟩:=a1R hown;have hln:ln=0:=c1U hown;subst hln;have HR:=hid ((CellsAt.new w lz 255).next hB1);have s0:=HR.out.2.2 0 _ rfl;have s1:=HR.out.2.2 1 _ rfl;have sf:=HR.out.2.1;have hw1:=HR.out.1;have HB1:=hid (((Below.refl w.heap.size w).alloc (Nat.le_refl _) _).trans (hB1.mono (by simp)))
 clear hB1 HC HR hown;have hne:w.heap.size≠w1.heap.size:=by omega
 go_wp2_with fail;refine bodyPost_ret (v:=.tuple #[.agg #[.string ⟨#[]⟩,.slice none 0 0],.int .i64 0]) (by simp[results,results193,go_sem,s0,s1,hw1]) rfl ?_
 rw[HV.out];exact a1E (((HB1.out.setCell (Nat.le_refl _) _).setCell (Nat.le_refl _) _).alloc (by simp[World.setCell];omega) _)
theorem b04 (s:ByteArray) (w:World) (hs:s.size<=2000) (hE:Env w) (k:Int) (t:List UInt8) (hcut:a1d (Lib.cut s.data.toList [35]).1 0 []=some ([(k,t)])) (hlen:∀q∈[(k,t)],q.2.length<=2000) (ps:List Pn.Prt) (er:Int) (hrs:Pn.rst ⟨t.toArray⟩ []=(ps,er)):
    Calls prog 193 #[.string s] w fun e w'=>a86 (a0F s.data.toList).1 (a0F s.data.toList).2.1 (a0F s.data.toList).2.2 w e w':=by
 by_cases her:er=0
 all_goals
  have HST:=hid (fun (B g o cp:Nat) (ao:Option Addr) (W:World) (h:LG w B [] ao g o t [] W)=>a1Z ⟨t.toArray⟩ cp h rfl)
  rw[hrs]at HST
  first
  | ((have hq:er≠0:=her);have HV:Hid (a0F s.data.toList=([],[],er)):=hid (by unfold a0F;rw[hcut];simp[a2b,a1O,hrs,her]);(have herb:(er==0)=false:=by simpa using her);(have hern:(er != 0)=true:=by simpa using her))
  | (have HV:Hid (a0F s.data.toList=([],ps,0)):=hid (by unfold a0F;rw[hcut];simp[a2b,a1O,hrs,her]);subst her)
  clear hrs;have HC:=hid (a50 s (w.alloc (.cells #[.string ⟨#[]⟩,.slice none 0 0] 255)) hs (hE.below ((Below.refl _ _).alloc (Nat.le_refl _) _) hE.1));rw[hcut]at HC;go_enter func193,ntmps193;go_wp2_with fail;refine HC.out.mono ?_;rintro e w1 ⟨⟨v,rfl,hown⟩,hB1⟩;obtain ⟨g,cap,rfl,hcap,hg1,hg2,hat,hpcs⟩:=a9I hown (by simp) hlen
  have hE1:Env w1:=(hE.below ((Below.refl _ _).alloc (Nat.le_refl _) _) hE.1).below hB1 (by simp;have:=hE.1;omega)
  have hw1:w.heap.size<w1.heap.size:=by have:=hB1.size;simp at this;omega
  simp at hg1
  have HLG:∀ao',Hid (LG w w1.heap.size [] ao' g 1 t [] (w1.alloc (.cells lz.toArray 255))):=fun ao'=>hid (by
   have hBn:Below w1.heap.size w1 (w1.alloc (.cells lz.toArray 255)):=(Below.refl _ _).alloc (Nat.le_refl _) _;exact ⟨hE1.below hBn hE1.1,fun i q hi=>by simp at hi,((CellsAt.new w lz 255).next hB1).next hBn,CellsAt.new w1 lz 255,(((Below.refl _ _).alloc (Nat.le_refl _) _).trans (hB1.mono (by simp))).trans (hBn.mono (by have:=hB1.size;simp at this;omega)),by have:=hBn.size;omega,(hBn.cell (p:=⟨g,1,none⟩) hg2).trans (hat 0 _ rfl).2⟩)
  have htx2:=(HLG none).out.text;have hla0:=fun ao'=>(HLG ao').out
  clear HLG hown hB1 hpcs HC hlen hat hcut;have hgn:g≠w1.heap.size:=by omega
  have hgn':w1.heap.size≠g:=by omega
  have hwn:w.heap.size≠w1.heap.size:=by omega
  have hwn':w1.heap.size≠w.heap.size:=by omega
  have hgw:g≠w.heap.size:=by omega
  have hgw':w.heap.size≠g:=by omega
  unfold lz at hla0 htx2;simp only[List.length_cons,List.length_nil]at hcap;by_cases hc1:cap=1
  ·subst hc1
   go_wp2_with fail;generalize w1.alloc _=W at hla0 htx2 ⊢
   go_region_held3 (fun w'=>w'.cell? ⟨g,1,none⟩=some (.string ⟨t.toArray⟩)) (first|(exact LG.text (by assumption))|go_keep)
    (first|(go_at_call 227;refine (HST.out _ _ _ _ _ _ (by first|assumption|exact LG.next (hla0 _) ((Below.refl _ _).drew)|exact LG.next (hla0 _) (drewN_b _ _))).mono ?_;rintro e w' ⟨a2,n2,cp2,rfl,hlp,hla'⟩;obtain ⟨x0,x1,x2⟩:=hla'.ln;have y0:=x2 0 _ rfl;have y1:=x2 1 _ rfl;have t':=hla'.text;clear x2))
   obtain ⟨r0,r1,r2⟩:=hla'.res;have s0:=r2 0 _ rfl;have s1:=r2 1 _ rfl;(have HEN:=hid (fun x y z=>a9A (LG.next (hla0 none) ((Below.refl _ _).drew)) hla' hlp hw1 x y z));clear r2 hla' hlp;go_wp2_with fail
   first
   | (have hq:=hern;refine bodyPost_ret (v:=.tuple #[.agg #[.string ⟨#[]⟩,.slice none 0 0],.int .i64 er]) (by simp[results,results193,go_sem,s0,s1]) rfl ?_)
   | (refine bodyPost_ret (v:=.tuple #[.agg #[.string ⟨[].toArray⟩,.slice a2 n2 cp2],.int .i64 0]) (by simp[results,results193,go_sem,s0,s1]) rfl ?_)
   rw[HV.out]
   first
   | (have hq:=hern;exact a1E (HEN.out _ _ _).2)
   | (exact ⟨_,_,_,rfl,HEN.out _ _ _⟩)
  ·have h02:(1:Int)<=cap:=by omega
   go_wp2_with fail;generalize w1.alloc _=W at hla0 htx2 ⊢
   go_region_held3 (fun w'=>w'.cell? ⟨g,1,none⟩=some (.string ⟨t.toArray⟩)) (first|(exact LG.text (by assumption))|go_keep)
    (first|(go_at_call 227;refine (HST.out _ _ _ _ _ _ (by first|assumption|exact LG.next (hla0 _) ((Below.refl _ _).drew)|exact LG.next (hla0 _) (drewN_b _ _))).mono ?_;rintro e w' ⟨a2,n2,cp2,rfl,hlp,hla'⟩;obtain ⟨x0,x1,x2⟩:=hla'.ln;have y0:=x2 0 _ rfl;have y1:=x2 1 _ rfl;have t':=hla'.text;clear x2))
   obtain ⟨r0,r1,r2⟩:=hla'.res;have s0:=r2 0 _ rfl;have s1:=r2 1 _ rfl;(have HEN:=hid (fun x y z=>a9A (LG.next (hla0 none) ((Below.refl _ _).drew)) hla' hlp hw1 x y z));clear r2 hla' hlp;go_wp2_with fail
   first
   | (have hq:=hern;refine bodyPost_ret (v:=.tuple #[.agg #[.string ⟨#[]⟩,.slice none 0 0],.int .i64 er]) (by simp[results,results193,go_sem,s0,s1]) rfl ?_)
   | (refine bodyPost_ret (v:=.tuple #[.agg #[.string ⟨[].toArray⟩,.slice a2 n2 cp2],.int .i64 0]) (by simp[results,results193,go_sem,s0,s1]) rfl ?_)
   rw[HV.out]
   first
   | (have hq:=hern;exact a1E (HEN.out _ _ _).2)
   | (exact ⟨_,_,_,rfl,HEN.out _ _ _⟩)
theorem b0B (s:ByteArray) (w:World) (hs:s.size<=2000) (hE:Env w) (k k2:Int) (t t2:List UInt8) (l:List Pn.Pc) (h58:t2≠[58]) (hcut:a1d (Lib.cut s.data.toList [35]).1 0 []=some ((k,t)::(k2,t2)::l)) (hlen:∀q∈(k,t)::(k2,t2)::l,q.2.length<=2000) (ps:List Pn.Prt) (er:Int) (hrs:Pn.rst ⟨t.toArray⟩ ((k2,t2)::l)=(ps,er)):
    Calls prog 193 #[.string s] w fun e w'=>a86 (a0F s.data.toList).1 (a0F s.data.toList).2.1 (a0F s.data.toList).2.2 w e w':=by
 by_cases her:er=0
 all_goals
  have HST:=hid (fun (B g o cp:Nat) (ao:Option Addr) (W:World) (h:LG w B [] ao g o t ((k2,t2)::l) W)=>a1Z ⟨t.toArray⟩ cp h rfl)
  rw[hrs]at HST
  first
  | ((have hq:er≠0:=her);have HV:Hid (a0F s.data.toList=([],[],er)):=hid (by unfold a0F;rw[hcut];simp[a2b,a1O,h58,hrs,her]);(have herb:(er==0)=false:=by simpa using her);(have hern:(er != 0)=true:=by simpa using her))
  | (have HV:Hid (a0F s.data.toList=([],ps,0)):=hid (by unfold a0F;rw[hcut];simp[a2b,a1O,h58,hrs,her]);subst her)
  clear hrs;have HC:=hid (a50 s (w.alloc (.cells #[.string ⟨#[]⟩,.slice none 0 0] 255)) hs (hE.below ((Below.refl _ _).alloc (Nat.le_refl _) _) hE.1));rw[hcut]at HC;go_enter func193,ntmps193;go_wp2_with fail;refine HC.out.mono ?_;rintro e w1 ⟨⟨v,rfl,hown⟩,hB1⟩;obtain ⟨g,cap,rfl,hcap,hg1,hg2,hat,hpcs⟩:=a9I hown (by simp) hlen
  have hE1:Env w1:=(hE.below ((Below.refl _ _).alloc (Nat.le_refl _) _) hE.1).below hB1 (by simp;have:=hE.1;omega)
  have hw1:w.heap.size<w1.heap.size:=by have:=hB1.size;simp at this;omega
  simp at hg1;have hBw:Below w1.heap.size w1 (w1.alloc (.cells lz.toArray 255)):=(Below.refl _ _).alloc (Nat.le_refl _) _
  have HLG:Hid (LG w w1.heap.size [] (some ⟨g,2,none⟩) g 1 t ((k2,t2)::l) (w1.alloc (.cells lz.toArray 255))):=hid (by
   have hBn:Below w1.heap.size w1 (w1.alloc (.cells lz.toArray 255)):=(Below.refl _ _).alloc (Nat.le_refl _) _;exact ⟨hE1.below hBn hE1.1,(hpcs 1).move hBn _ hBn.size,((CellsAt.new w lz 255).next hB1).next hBn,CellsAt.new w1 lz 255,(((Below.refl _ _).alloc (Nat.le_refl _) _).trans (hB1.mono (by simp))).trans (hBn.mono (by have:=hB1.size;simp at this;omega)),by have:=hBn.size;omega,(hBn.cell (p:=⟨g,1,none⟩) hg2).trans (hat 0 _ rfl).2⟩)
  have htx2:=HLG.out.text;have HLC:=HLG.out;obtain ⟨c0',c1'⟩:=hat 1 _ rfl;simp only[Nat.reduceMul,Nat.reduceAdd]at c0' c1';have hq:(t2==[58])=false:=by simpa using h58
  clear HLG hown hB1 hpcs HC hlen hat hcut hBw;have hgn:g≠w1.heap.size:=by omega
  have hgn':w1.heap.size≠g:=by omega
  have hwn:w.heap.size≠w1.heap.size:=by omega
  have hwn':w1.heap.size≠w.heap.size:=by omega
  have hgw:g≠w.heap.size:=by omega
  have hgw':w.heap.size≠g:=by omega
  unfold lz at HLC htx2;simp only[List.length_cons]at hcap;have h01:(1:Int)<=(l.length:Int)+1+1:=by omega
  have h02:((l.length+1+1:Nat):Int)<=cap:=by omega
  have h03:¬cap=1:=by omega
  have h04:(0:Int)<(l.length:Int)+1+1:=by omega
  have h05:(0:Int)<((l.length+1+1:Nat):Int):=by omega
  have h06:(1:Int)<=((l.length+1+1:Nat):Int):=by omega
  go_wp2_with fail;generalize w1.alloc _=W at HLC htx2 ⊢
  go_region_held3 (fun w'=>w'.cell? ⟨g,1,none⟩=some (.string ⟨t.toArray⟩)) (first|(exact LG.text (by assumption))|go_keep)
   (first|(go_at_call 227;refine (HST.out _ _ _ _ _ _ (by first|assumption|exact LG.next (HLC) ((Below.refl _ _).drew)|exact LG.next (HLC) (drewN_b _ _))).mono ?_;rintro e w' ⟨a2,n2,cp2,rfl,hlp,hla'⟩;obtain ⟨x0,x1,x2⟩:=hla'.ln;have y0:=x2 0 _ rfl;have y1:=x2 1 _ rfl;have t':=hla'.text;clear x2))
  obtain ⟨r0,r1,r2⟩:=hla'.res;have s0:=r2 0 _ rfl;have s1:=r2 1 _ rfl;have HEN:=hid (fun x y z=>a9A (LG.next (HLC) ((Below.refl _ _).drew)) hla' hlp hw1 x y z)
  clear r2 hla' hlp;go_wp2_with fail
  first
  | (have hq:=hern;refine bodyPost_ret (v:=.tuple #[.agg #[.string ⟨#[]⟩,.slice none 0 0],.int .i64 er]) (by simp[results,results193,go_sem,s0,s1]) rfl ?_)
  | (refine bodyPost_ret (v:=.tuple #[.agg #[.string ⟨[].toArray⟩,.slice a2 n2 cp2],.int .i64 0]) (by simp[results,results193,go_sem,s0,s1]) rfl ?_)
  rw[HV.out]
  first
  | (have hq:=hern;exact a1E (HEN.out _ _ _).2)
  | (exact ⟨_,_,_,rfl,HEN.out _ _ _⟩)
theorem a8x (s:ByteArray) (w:World) (hs:s.size<=2000) (hE:Env w) (k k2:Int) (t:List UInt8) (l:List Pn.Pc) (hcut:a1d (Lib.cut s.data.toList [35]).1 0 []=some ((k,t)::(k2,[58])::l)) (hlen:∀q∈(k,t)::(k2,[58])::l,q.2.length<=2000) (hnm:a4x k t=false):
    Calls prog 193 #[.string s] w fun e w'=>a86 (a0F s.data.toList).1 (a0F s.data.toList).2.1 (a0F s.data.toList).2.2 w e w':=by
 have HV:Hid (a0F s.data.toList=([],[],4)):=hid (by unfold a0F;rw[hcut];simp[a2b,hnm])
 have HNM:=hid (fun w'=>a3K k ⟨t.toArray⟩ w' (by have:=hlen (k,t) (by simp);simpa[ByteArray.size] using this))
 simp only[hnm]at HNM;have HC:=hid (a50 s (w.alloc (.cells #[.string ⟨#[]⟩,.slice none 0 0] 255)) hs (hE.below ((Below.refl _ _).alloc (Nat.le_refl _) _) hE.1));rw[hcut]at HC;go_enter func193,ntmps193;go_wp2_with fail;refine HC.out.mono ?_;rintro e w1 ⟨⟨v,rfl,hown⟩,hB1⟩;obtain ⟨g,cap,rfl,hcap,hg1,hg2,hat,hpcs⟩:=a9I hown (by simp) hlen
 have hE1:Env w1:=(hE.below ((Below.refl _ _).alloc (Nat.le_refl _) _) hE.1).below hB1 (by simp;have:=hE.1;omega)
 have hw1:w.heap.size<w1.heap.size:=by have:=hB1.size;simp at this;omega
 simp at hg1;have HR:=hid (((CellsAt.new w lz 255).next hB1).alloc (.cells lz.toArray 255));have HB1:=hid ((((Below.refl w.heap.size w).alloc (Nat.le_refl _) _).trans (hB1.mono (by simp))).alloc (Nat.le_of_lt hw1) (.cells lz.toArray 255))
 have HN:=hid (CellsAt.new w1 lz 255);unfold lz at HR HB1 HN;obtain ⟨a0,a1⟩:=hat 0 _ rfl;obtain ⟨c0',c1'⟩:=hat 1 _ rfl;simp only[Nat.reduceMul,Nat.reduceAdd]at a0 a1 c0' c1';simp only[List.length_cons]at hcap;have h01:(1:Int)<=(l.length:Int)+1+1:=by omega
 have h02:((l.length+1+1:Nat):Int)<=cap:=by omega
 have h04:(0:Int)<(l.length:Int)+1+1:=by omega
 have h05:(0:Int)<((l.length+1+1:Nat):Int):=by omega
 have h06:(1:Int)<=((l.length+1+1:Nat):Int):=by omega
 clear hown hB1 hpcs HC hlen hat hcut;have hgn:g≠w1.heap.size:=by omega
 have hgn':w1.heap.size≠g:=by omega
 have hwn:w.heap.size≠w1.heap.size:=by omega
 have hwn':w1.heap.size≠w.heap.size:=by omega
 have hgw:g≠w.heap.size:=by omega
 have hgw':w.heap.size≠g:=by omega
 go_wp2_with fail;generalize w1.alloc _=W at *;refine (HNM.out _).mono ?_;rintro e w2 ⟨rfl,hB2⟩;have HR:=hid (HR.out.next hB2);have HB1:=hid (HB1.out.trans (hB2.mono HB1.out.size));have s0:=HR.out.2.2 0 _ rfl;have s1:=HR.out.2.2 1 _ rfl;have sf:=HR.out.2.1;clear hB2 HNM HN;go_wp2_with fail;refine bodyPost_ret (v:=.tuple #[.agg #[.string ⟨#[]⟩,.slice none 0 0],.int .i64 4]) (by simp[results,results193,go_sem,s0,s1]) rfl ?_
 rw[HV.out];exact a1E ((HB1.out.setCell (Nat.le_refl _) _).setCell (Nat.le_refl _) _)
theorem a9N (s:ByteArray) (w:World) (hs:s.size<=2000) (hE:Env w) (k k2:Int) (t:List UInt8) (hcut:a1d (Lib.cut s.data.toList [35]).1 0 []=some [(k,t),(k2,[58])]) (hlen:∀q∈[(k,t),(k2,[58])],q.2.length<=2000) (hnm:a4x k t=true):
    Calls prog 193 #[.string s] w fun e w'=>a86 (a0F s.data.toList).1 (a0F s.data.toList).2.1 (a0F s.data.toList).2.2 w e w':=by
 have HV:Hid (a0F s.data.toList=(t,[],0)):=hid (by unfold a0F;rw[hcut];simp[a2b,a1O,hnm])
 have HNM:=hid (fun w'=>a3K k ⟨t.toArray⟩ w' (by have:=hlen (k,t) (by simp);simpa[ByteArray.size] using this))
 simp only[hnm]at HNM;have HC:=hid (a50 s (w.alloc (.cells #[.string ⟨#[]⟩,.slice none 0 0] 255)) hs (hE.below ((Below.refl _ _).alloc (Nat.le_refl _) _) hE.1));rw[hcut]at HC;go_enter func193,ntmps193;go_wp2_with fail;refine HC.out.mono ?_;rintro e w1 ⟨⟨v,rfl,hown⟩,hB1⟩;obtain ⟨g,cap,rfl,hcap,hg1,hg2,hat,hpcs⟩:=a9I hown (by simp) hlen
 have hE1:Env w1:=(hE.below ((Below.refl _ _).alloc (Nat.le_refl _) _) hE.1).below hB1 (by simp;have:=hE.1;omega)
 have hw1:w.heap.size<w1.heap.size:=by have:=hB1.size;simp at this;omega
 simp at hg1;have HR:=hid (((CellsAt.new w lz 255).next hB1).alloc (.cells lz.toArray 255));have HB1:=hid ((((Below.refl w.heap.size w).alloc (Nat.le_refl _) _).trans (hB1.mono (by simp))).alloc (Nat.le_of_lt hw1) (.cells lz.toArray 255))
 have HN:=hid (CellsAt.new w1 lz 255);unfold lz at HR HB1 HN;have hBw:Below w1.heap.size w1 (w1.alloc (.cells lz.toArray 255)):=(Below.refl _ _).alloc (Nat.le_refl _) _;obtain ⟨a0,a1⟩:=hat 0 _ rfl;obtain ⟨c0',c1'⟩:=hat 1 _ rfl;simp only[Nat.reduceMul,Nat.reduceAdd]at a0 a1 c0' c1';have HA1:=hid ((hBw.cell (p:=⟨g,1,none⟩) hg2).trans a1);unfold lz at HA1;simp only[List.length_cons,List.length_nil]at hcap;have h02:(2:Int)<=cap:=by omega
 have hgl:g<(w1.alloc (.cells lz.toArray 255)).heap.size:=by simp;omega
 unfold lz at hgl;clear hown hB1 hpcs HC hlen hat hcut hBw;have hgn:g≠w1.heap.size:=by omega
 have hgn':w1.heap.size≠g:=by omega
 have hwn:w.heap.size≠w1.heap.size:=by omega
 have hwn':w1.heap.size≠w.heap.size:=by omega
 have hgw:g≠w.heap.size:=by omega
 have hgw':w.heap.size≠g:=by omega
 go_wp2_with fail;generalize w1.alloc _=W at *;refine (HNM.out _).mono ?_;rintro e w2 ⟨rfl,hB2⟩;have HR:=hid (HR.out.next hB2);have HB1:=hid (HB1.out.trans (hB2.mono HB1.out.size));have HN:=hid (HN.out.next hB2);have s0:=HR.out.2.2 0 _ rfl;have s1:=HR.out.2.2 1 _ rfl;have sf:=HR.out.2.1;have n0:=HN.out.2.2 0 _ rfl;have n1:=HN.out.2.2 1 _ rfl;have nf:=HN.out.2.1;have b1:=(hB2.cell (p:=⟨g,1,none⟩) hgl).trans HA1.out;clear hB2 HNM HN a0 a1 c0' c1';by_cases hc2:cap=2
 ·subst hc2
  go_wp2_with fail;go_region
  all_goals
   go_wp2_with fail;(refine bodyPost_ret (v:=.tuple #[.agg #[.string ⟨t.toArray⟩,.slice none 0 0],.int .i64 0]) (by simp[results,results193,go_sem,s0,s1]) rfl ?_);rw[HV.out];exact a1E (((HB1.out.setCell (Nat.le_of_lt hw1) _).drew.setCell (Nat.le_refl _) _).setCell (Nat.le_refl _) _)
 ·go_wp2_with fail
  go_region
  all_goals
   go_wp2_with fail;(refine bodyPost_ret (v:=.tuple #[.agg #[.string ⟨t.toArray⟩,.slice none 0 0],.int .i64 0]) (by simp[results,results193,go_sem,s0,s1]) rfl ?_);rw[HV.out];exact a1E (((HB1.out.setCell (Nat.le_of_lt hw1) _).drew.setCell (Nat.le_refl _) _).setCell (Nat.le_refl _) _)
theorem a6D (s:ByteArray) (w:World) (hs:s.size<=2000) (hE:Env w) (k k2 k3:Int) (t t3:List UInt8) (hcut:a1d (Lib.cut s.data.toList [35]).1 0 []=some ((k,t)::(k2,[58])::(k3,t3)::[])) (hlen:∀q∈(k,t)::(k2,[58])::(k3,t3)::[],q.2.length<=2000) (hnm:a4x k t=true) (ps:List Pn.Prt) (er:Int) (hrs:Pn.rst ⟨t3.toArray⟩ []=(ps,er)):
    Calls prog 193 #[.string s] w fun e w'=>a86 (a0F s.data.toList).1 (a0F s.data.toList).2.1 (a0F s.data.toList).2.2 w e w':=by
 by_cases her:er=0
 all_goals
  first
  | ((have hq:er≠0:=her);have HV:Hid (a0F s.data.toList=([],[],er)):=hid (by unfold a0F;rw[hcut];simp[a2b,a1O,hnm,hrs,her]))
  | (have HV:Hid (a0F s.data.toList=(t,ps,0)):=hid (by unfold a0F;rw[hcut];simp[a2b,a1O,hnm,hrs,her]))
  have HST:=hid (fun (B g o cp:Nat) (ao:Option Addr) (W:World) (h:LG w B t ao g o t3 [] W)=>a1Z ⟨t3.toArray⟩ cp h rfl)
  rw[hrs]at HST
  first
  | ((have hq:er≠0:=her);((have herb:(er==0)=false:=by simpa using her);(have hern:(er != 0)=true:=by simpa using her)))
  | (subst her)
  clear hrs;have HNM:=hid (fun w'=>a3K k ⟨t.toArray⟩ w' (by have:=hlen (k,t) (by simp);simpa[ByteArray.size] using this))
  simp only[hnm]at HNM;have HC:=hid (a50 s (w.alloc (.cells #[.string ⟨#[]⟩,.slice none 0 0] 255)) hs (hE.below ((Below.refl _ _).alloc (Nat.le_refl _) _) hE.1));rw[hcut]at HC;go_enter func193,ntmps193;go_wp2_with fail;refine HC.out.mono ?_;rintro e w1 ⟨⟨v,rfl,hown⟩,hB1⟩;obtain ⟨g,cap,rfl,hcap,hg1,hg2,hat,hpcs⟩:=a9I hown (by simp) hlen
  have hE1:Env w1:=(hE.below ((Below.refl _ _).alloc (Nat.le_refl _) _) hE.1).below hB1 (by simp;have:=hE.1;omega)
  have hw1:w.heap.size<w1.heap.size:=by have:=hB1.size;simp at this;omega
  simp at hg1;have hBw:Below w1.heap.size w1 (w1.alloc (.cells lz.toArray 255)):=(Below.refl _ _).alloc (Nat.le_refl _) _
  have HLG:∀ao',Hid (LG w w1.heap.size [] ao' g 5 t3 [] (w1.alloc (.cells lz.toArray 255))):=fun ao'=>hid (by
   have hBn:Below w1.heap.size w1 (w1.alloc (.cells lz.toArray 255)):=(Below.refl _ _).alloc (Nat.le_refl _) _;exact ⟨hE1.below hBn hE1.1,fun i q hi=>by simp at hi,((CellsAt.new w lz 255).next hB1).next hBn,CellsAt.new w1 lz 255,(((Below.refl _ _).alloc (Nat.le_refl _) _).trans (hB1.mono (by simp))).trans (hBn.mono (by have:=hB1.size;simp at this;omega)),by have:=hBn.size;omega,(hBn.cell (p:=⟨g,5,none⟩) hg2).trans (hat 2 _ rfl).2⟩)
  obtain ⟨a0,a1⟩:=hat 0 _ rfl;obtain ⟨c0',c1'⟩:=hat 1 _ rfl;simp only[Nat.reduceMul,Nat.reduceAdd]at a0 a1 c0' c1';have HA1:=hid ((hBw.cell (p:=⟨g,1,none⟩) hg2).trans a1);have hgl:g<(w1.alloc (.cells lz.toArray 255)).heap.size:=by simp;omega
  unfold lz at HA1 hgl HLG;clear hown hB1 hpcs HC hlen hat hcut hBw;simp only[List.length_cons,List.length_nil]at hcap;have hgn:g≠w1.heap.size:=by omega
  have hgn':w1.heap.size≠g:=by omega
  have hwn:w.heap.size≠w1.heap.size:=by omega
  have hwn':w1.heap.size≠w.heap.size:=by omega
  have hgw:g≠w.heap.size:=by omega
  have hgw':w.heap.size≠g:=by omega
  have h02:(3:Int)<=cap:=by omega
  go_wp2_with fail;generalize w1.alloc _=W at *;refine (HNM.out _).mono ?_;rintro e w2 ⟨rfl,hB2⟩;have n0:=((HLG none).out.next hB2).ln.2.2 0 _ rfl;have nf:=((HLG none).out.next hB2).ln.2.1 0;have HLG:=fun ao'=>hid ((HLG ao').out.name hB2 t hwn' hgn' hw1 hE.1 (fun i p h=>by simp at h))
  have hlb:=(HLG none).out.ln.1;have b1:=(hB2.cell (p:=⟨g,1,none⟩) hgl).trans HA1.out;clear hB2 HNM HA1 a0 a1 c0' c1';have htx2:=(HLG none).out.text;have hla0:=fun ao'=>(HLG ao').out
  clear HLG;by_cases hc3:cap=3
  ·subst hc3
   go_wp2_with fail;go_region
   all_goals
    generalize (w2.setCell _ _).drew=W3 at hla0 htx2 ⊢;clear n0 nf b1;go_wp2_with fail
    go_region_held3 (fun w'=>w'.cell? ⟨g,5,none⟩=some (.string ⟨t3.toArray⟩)) (first|(exact LG.text (by assumption))|go_keep)
     (first|(go_at_call 227;refine (HST.out _ _ _ _ _ _ (by first|assumption|exact LG.next (hla0 _) ((Below.refl _ _).drew)|exact LG.next (hla0 _) (drewN_b _ _))).mono ?_;rintro e w' ⟨a2,n2,cp2,rfl,hlp,hla'⟩;obtain ⟨x0,x1,x2⟩:=hla'.ln;have y0:=x2 0 _ rfl;have y1:=x2 1 _ rfl;have t':=hla'.text;clear x2))
    obtain ⟨r0,r1,r2⟩:=hla'.res;have s0:=r2 0 _ rfl;have s1:=r2 1 _ rfl;(have HEN:=hid (fun x y z=>a9A (LG.next (hla0 none) ((Below.refl _ _).drew)) hla' hlp hw1 x y z));clear r2 hla' hlp;go_wp2_with fail
    first
    | (have hq:=hern;refine bodyPost_ret (v:=.tuple #[.agg #[.string ⟨#[]⟩,.slice none 0 0],.int .i64 er]) (by simp[results,results193,go_sem,s0,s1]) rfl ?_)
    | (refine bodyPost_ret (v:=.tuple #[.agg #[.string ⟨t.toArray⟩,.slice a2 n2 cp2],.int .i64 0]) (by simp[results,results193,go_sem,s0,s1]) rfl ?_)
    rw[HV.out]
    first
    | (have hq:=hern;exact a1E (HEN.out _ _ _).2)
    | (exact ⟨_,_,_,rfl,HEN.out _ _ _⟩)
  ·have hc3':¬cap-2=1:=by omega
   go_wp2_with fail;go_region
   all_goals
    generalize (w2.setCell _ _).drew=W3 at hla0 htx2 ⊢;clear n0 nf b1;go_wp2_with fail
    go_region_held3 (fun w'=>w'.cell? ⟨g,5,none⟩=some (.string ⟨t3.toArray⟩)) (first|(exact LG.text (by assumption))|go_keep)
     (first|(go_at_call 227;refine (HST.out _ _ _ _ _ _ (by first|assumption|exact LG.next (hla0 _) ((Below.refl _ _).drew)|exact LG.next (hla0 _) (drewN_b _ _))).mono ?_;rintro e w' ⟨a2,n2,cp2,rfl,hlp,hla'⟩;obtain ⟨x0,x1,x2⟩:=hla'.ln;have y0:=x2 0 _ rfl;have y1:=x2 1 _ rfl;have t':=hla'.text;clear x2))
    obtain ⟨r0,r1,r2⟩:=hla'.res;have s0:=r2 0 _ rfl;have s1:=r2 1 _ rfl;(have HEN:=hid (fun x y z=>a9A (LG.next (hla0 none) ((Below.refl _ _).drew)) hla' hlp hw1 x y z));clear r2 hla' hlp;go_wp2_with fail
    first
    | (have hq:=hern;refine bodyPost_ret (v:=.tuple #[.agg #[.string ⟨#[]⟩,.slice none 0 0],.int .i64 er]) (by simp[results,results193,go_sem,s0,s1]) rfl ?_)
    | (refine bodyPost_ret (v:=.tuple #[.agg #[.string ⟨t.toArray⟩,.slice a2 n2 cp2],.int .i64 0]) (by simp[results,results193,go_sem,s0,s1]) rfl ?_)
    rw[HV.out]
    first
    | (have hq:=hern;exact a1E (HEN.out _ _ _).2)
    | (exact ⟨_,_,_,rfl,HEN.out _ _ _⟩)
theorem a5S (s:ByteArray) (w:World) (hs:s.size<=2000) (hE:Env w) (k k2 k3:Int) (t t3:List UInt8) (k4:Int) (t4:List UInt8) (l:List Pn.Pc) (hcut:a1d (Lib.cut s.data.toList [35]).1 0 []=some ((k,t)::(k2,[58])::(k3,t3)::(k4,t4)::l)) (hlen:∀q∈(k,t)::(k2,[58])::(k3,t3)::(k4,t4)::l,q.2.length<=2000) (hnm:a4x k t=true) (ps:List Pn.Prt) (er:Int) (hrs:Pn.rst ⟨t3.toArray⟩ ((k4,t4)::l)=(ps,er)):
    Calls prog 193 #[.string s] w fun e w'=>a86 (a0F s.data.toList).1 (a0F s.data.toList).2.1 (a0F s.data.toList).2.2 w e w':=by
 by_cases her:er=0
 all_goals
  first
  | ((have hq:er≠0:=her);have HV:Hid (a0F s.data.toList=([],[],er)):=hid (by unfold a0F;rw[hcut];simp[a2b,a1O,hnm,hrs,her]))
  | (have HV:Hid (a0F s.data.toList=(t,ps,0)):=hid (by unfold a0F;rw[hcut];simp[a2b,a1O,hnm,hrs,her]))
  have HST:=hid (fun (B g o cp:Nat) (ao:Option Addr) (W:World) (h:LG w B t ao g o t3 ((k4,t4)::l) W)=>a1Z ⟨t3.toArray⟩ cp h rfl)
  rw[hrs]at HST
  first
  | ((have hq:er≠0:=her);((have herb:(er==0)=false:=by simpa using her);(have hern:(er != 0)=true:=by simpa using her)))
  | (subst her)
  clear hrs;have HNM:=hid (fun w'=>a3K k ⟨t.toArray⟩ w' (by have:=hlen (k,t) (by simp);simpa[ByteArray.size] using this))
  simp only[hnm]at HNM;have HC:=hid (a50 s (w.alloc (.cells #[.string ⟨#[]⟩,.slice none 0 0] 255)) hs (hE.below ((Below.refl _ _).alloc (Nat.le_refl _) _) hE.1));rw[hcut]at HC;go_enter func193,ntmps193;go_wp2_with fail;refine HC.out.mono ?_;rintro e w1 ⟨⟨v,rfl,hown⟩,hB1⟩;obtain ⟨g,cap,rfl,hcap,hg1,hg2,hat,hpcs⟩:=a9I hown (by simp) hlen
  have hE1:Env w1:=(hE.below ((Below.refl _ _).alloc (Nat.le_refl _) _) hE.1).below hB1 (by simp;have:=hE.1;omega)
  have hw1:w.heap.size<w1.heap.size:=by have:=hB1.size;simp at this;omega
  simp at hg1;have hBw:Below w1.heap.size w1 (w1.alloc (.cells lz.toArray 255)):=(Below.refl _ _).alloc (Nat.le_refl _) _
  have HLG:Hid (LG w w1.heap.size [] (some ⟨g,6,none⟩) g 5 t3 ((k4,t4)::l) (w1.alloc (.cells lz.toArray 255))):=hid (by
   have hBn:Below w1.heap.size w1 (w1.alloc (.cells lz.toArray 255)):=(Below.refl _ _).alloc (Nat.le_refl _) _;exact ⟨hE1.below hBn hE1.1,(hpcs 3).move hBn _ hBn.size,((CellsAt.new w lz 255).next hB1).next hBn,CellsAt.new w1 lz 255,(((Below.refl _ _).alloc (Nat.le_refl _) _).trans (hB1.mono (by simp))).trans (hBn.mono (by have:=hB1.size;simp at this;omega)),by have:=hBn.size;omega,(hBn.cell (p:=⟨g,5,none⟩) hg2).trans (hat 2 _ rfl).2⟩)
  obtain ⟨a0,a1⟩:=hat 0 _ rfl;obtain ⟨c0',c1'⟩:=hat 1 _ rfl;simp only[Nat.reduceMul,Nat.reduceAdd]at a0 a1 c0' c1';have HA1:=hid ((hBw.cell (p:=⟨g,1,none⟩) hg2).trans a1);have hgl:g<(w1.alloc (.cells lz.toArray 255)).heap.size:=by simp;omega
  unfold lz at HA1 hgl HLG;clear hown hB1 hpcs HC hlen hat hcut hBw;simp only[List.length_cons]at hcap;have hgn:g≠w1.heap.size:=by omega
  have hgn':w1.heap.size≠g:=by omega
  have hwn:w.heap.size≠w1.heap.size:=by omega
  have hwn':w1.heap.size≠w.heap.size:=by omega
  have hgw:g≠w.heap.size:=by omega
  have hgw':w.heap.size≠g:=by omega
  have h01:(1:Int)<=(l.length:Int)+1+1:=by omega
  have h02:((l.length+1+1+1+1:Nat):Int)<=cap:=by omega
  have h02':(l.length:Int)+1+1+1+1<=cap:=by omega
  have h04:(0:Int)<(l.length:Int)+1+1:=by omega
  have h05:(0:Int)<((l.length+1+1:Nat):Int):=by omega
  have h06:(1:Int)<=((l.length+1+1:Nat):Int):=by omega
  have h07:(2:Int)<=((l.length+1+1+1+1:Nat):Int):=by omega
  have h08:(2:Int)<=(l.length:Int)+1+1+1+1:=by omega
  have h09:¬cap=2:=by omega
  have h10:¬cap=3:=by omega
  have h11:¬cap-2=1:=by omega
  have g01:(1:Int)<=(l.length:Int)+2:=by omega
  have g02:((l.length+2:Nat):Int)<=((cap-2:Nat):Int):=by omega
  have g02':(l.length:Int)+2<=((cap-2:Nat):Int):=by omega
  have g04:(0:Int)<(l.length:Int)+2:=by omega
  have g05:(0:Int)<((l.length+2:Nat):Int):=by omega
  have g06:(1:Int)<=((l.length+2:Nat):Int):=by omega
  go_wp2_with fail;generalize w1.alloc _=W at *;refine (HNM.out _).mono ?_;rintro e w2 ⟨rfl,hB2⟩;have n0:=(HLG.out.next hB2).ln.2.2 0 _ rfl;have nf:=(HLG.out.next hB2).ln.2.1 0;have HLG:=hid (HLG.out.name hB2 t hwn' hgn' hw1 hE.1 (fun _ _ _ gg oo e=>by cases e;exact hgn))
  have hlb:=HLG.out.ln.1;have b1:=(hB2.cell (p:=⟨g,1,none⟩) hgl).trans HA1.out;clear hB2 HNM HA1 a0 a1 c0' c1';have htx2:=HLG.out.text;have HLC:=HLG.out;clear HLG;go_wp2_with fail;go_region
  all_goals
   generalize (w2.setCell _ _).drew=W3 at HLC htx2 ⊢;clear n0 nf b1;go_wp2_with fail
   go_region_held3 (fun w'=>w'.cell? ⟨g,5,none⟩=some (.string ⟨t3.toArray⟩)) (first|(exact LG.text (by assumption))|go_keep)
    (first|(go_at_call 227;refine (HST.out _ _ _ _ _ _ (by first|assumption|exact LG.next (HLC) ((Below.refl _ _).drew)|exact LG.next (HLC) (drewN_b _ _))).mono ?_;rintro e w' ⟨a2,n2,cp2,rfl,hlp,hla'⟩;obtain ⟨x0,x1,x2⟩:=hla'.ln;have y0:=x2 0 _ rfl;have y1:=x2 1 _ rfl;have t':=hla'.text;clear x2))
   obtain ⟨r0,r1,r2⟩:=hla'.res;have s0:=r2 0 _ rfl;have s1:=r2 1 _ rfl;(have HEN:=hid (fun x y z=>a9A (LG.next (HLC) ((Below.refl _ _).drew)) hla' hlp hw1 x y z));clear r2 hla' hlp;go_wp2_with fail
   first
   | (have hq:=hern;refine bodyPost_ret (v:=.tuple #[.agg #[.string ⟨#[]⟩,.slice none 0 0],.int .i64 er]) (by simp[results,results193,go_sem,s0,s1]) rfl ?_)
   | (refine bodyPost_ret (v:=.tuple #[.agg #[.string ⟨t.toArray⟩,.slice a2 n2 cp2],.int .i64 0]) (by simp[results,results193,go_sem,s0,s1]) rfl ?_)
   rw[HV.out]
   first
   | (have hq:=hern;exact a1E (HEN.out _ _ _).2)
   | (exact ⟨_,_,_,rfl,HEN.out _ _ _⟩)
theorem a3Y (s:ByteArray) (w:World) (hs:s.size<=2000) (hE:Env w):
    Calls prog 193 #[.string s] w fun e w'=>a86 (a0F s.data.toList).1 (a0F s.data.toList).2.1 (a0F s.data.toList).2.2 w e w':=by
 cases hcut:a1d (Lib.cut s.data.toList [35]).1 0 [] with
 | none=>exact a9U s w hs hE hcut
 | some A=>
  have hlen:∀q∈A,q.2.length<=2000:=fun q hq=>by
   have h1:=a7G _ _ _ _ hcut q hq;have h2:=c74 s.data.toList [35];have h3:s.data.toList.length=s.size:=(Lib.size_eq s).symm;simp at h1;omega
  match A,hcut,hlen with
  | [],hcut,hlen=>exact b1S s w hs hE hcut
  | [(k,t)],hcut,hlen=>
   generalize hX:Pn.rst ⟨t.toArray⟩ []=X;obtain ⟨ps,er⟩:=X;exact b04 s w hs hE k t hcut hlen ps er hX
  | (k,t)::(k2,t2)::l,hcut,hlen=>
   by_cases h58:t2=[58]
   ·subst h58
    by_cases hnm:a4x k t=true
    ·match l,hcut,hlen with
     | [],hcut,hlen=>exact a9N s w hs hE k k2 t hcut hlen hnm
     | [(k3,t3)],hcut,hlen=>
      generalize hX:Pn.rst ⟨t3.toArray⟩ []=X;obtain ⟨ps,er⟩:=X;exact a6D s w hs hE k k2 k3 t t3 hcut hlen hnm ps er hX
     | (k3,t3)::(k4,t4)::l,hcut,hlen=>
      generalize hX:Pn.rst ⟨t3.toArray⟩ ((k4,t4)::l)=X;obtain ⟨ps,er⟩:=X;exact a5S s w hs hE k k2 k3 t t3 k4 t4 l hcut hlen hnm ps er hX
    ·exact a8x s w hs hE k k2 t l hcut hlen (by simpa using hnm)
   ·generalize hX:Pn.rst ⟨t.toArray⟩ ((k2,t2)::l)=X
    obtain ⟨ps,er⟩:=X;exact b0B s w hs hE k k2 t t2 l h58 hcut hlen ps er hX
