import Derived.Laws.EntriesVeiled
import Derived.Test.YtbmcofdodfcnnaaGreatDoorGFA
set_option linter.all false
set_option maxHeartbeats 0
set_option maxRecDepth 100000
namespace Go
open Proofs.Tryz
def nT (a b:aE):Bool:=a.op==b.op&&(a.rd==b.rd&&(a.rs1==b.rs1&&(a.rs2==b.rs2&&a.imm==b.imm)))
def jU (i:aE) (k:Nat):Bool:=(fm k).op==i.op&&((fW (fm k) (jR (fm k) i)).2&&nT (fW (fm k) (jR (fm k) i)).1 i)
def bQ (i:aE):Int×Int:=if right i then (match (List.range 32).find? (jU i) with|some k=>(jR (fm k) i,0)|none=>(0,2)) else (0,1)
def A9:∀k,k<32->qa (fm k):=by
 have q:∀k,k<32->∀x∈(fm k).half,x.toNat<128:=by decide
 have u:∀k,k<32->(fm k).half.length<=16:=by decide
 have v:∀k,k<32->(places (fm k).half 105).length=(fm k).order.length:=by decide
 have w:∀k,k<32->∀j,j<(fm k).order.length->0<=im (fm k).order j/\im (fm k).order j<=11:=by decide
 exact λ k h=>⟨q k h,u k h,v k h,w k h⟩
def Mi {i:aE} {k:Nat} (v:right i=true) (u:k<32) (q:∀j,j<k->jU i j=false) (h:jU i k=true):bQ i=(jR (fm k) i,0):=by
 unfold bQ;rw[zt v,pp _ 32 k u q h]
def OQ {i:aE} (q:right i=true) (h:∀j,j<32->jU i j=false):bQ i=(0,2):=by
 unfold bQ;rw[zt q,lX _ 32 h]
open RowKit
def wu (i:aE):List Value:=[.int .i64 i.op,.int .i64 i.rd,.int .i64 i.rs1,.int .i64 i.rs2,.int .i64 i.imm]
def Me:∀k,k<32->nj.extract (k*8) (k*8+8)=(rF k).toArray
 | 0,_=>by kernel_rfl
 | 1,_=>by kernel_rfl
 | 2,_=>by kernel_rfl
 | 3,_=>by kernel_rfl
 | 4,_=>by kernel_rfl
 | 5,_=>by kernel_rfl
 | 6,_=>by kernel_rfl
 | 7,_=>by kernel_rfl
 | 8,_=>by kernel_rfl
 | 9,_=>by kernel_rfl
 | 10,_=>by kernel_rfl
 | 11,_=>by kernel_rfl
 | 12,_=>by kernel_rfl
 | 13,_=>by kernel_rfl
 | 14,_=>by kernel_rfl
 | 15,_=>by kernel_rfl
 | 16,_=>by kernel_rfl
 | 17,_=>by kernel_rfl
 | 18,_=>by kernel_rfl
 | 19,_=>by kernel_rfl
 | 20,_=>by kernel_rfl
 | 21,_=>by kernel_rfl
 | 22,_=>by kernel_rfl
 | 23,_=>by kernel_rfl
 | 24,_=>by kernel_rfl
 | 25,_=>by kernel_rfl
 | 26,_=>by kernel_rfl
 | 27,_=>by kernel_rfl
 | 28,_=>by kernel_rfl
 | 29,_=>by kernel_rfl
 | 30,_=>by kernel_rfl
 | 31,_=>by kernel_rfl
 | k+32,h=>absurd h (by omega)
def Ch (k:Nat) (w:World) (j:k<32):
    (Instr.index 115 (.agg nj) (.int .i64 (k:Int))).run prog w=.ok (.agg (rF k).toArray) w:=by
 have q:prog.underlying 115=some (.array 32 114):=by kernel_rfl
 have hx:=Me k j;simp[Instr.index,asIntOf,underlying,q,part,hx,go_sem];intro h;omega
def sE:Prop:=∀k,k<32->∀n w,Calls prog 66 #[.agg (rF k).toArray,.int .i64 n] w λ e w'=>e=.returned (.tuple #[(fW (fm k) n).1.val,.bool (fW (fm k) n).2])/\Below w.heap.size w w'
def Js (i) (w) (u:right i=false):
    aG prog 37 #[i.val] w (.tuple #[.int .i64 (bQ i).1,.int .i64 (bQ i).2]):=by
 unfold aG;have D:Hid (bQ i=(0,1)):=aA (by unfold bQ;rw[u];rfl)
 have q:=aA (λ w'=>iI i w')
 rw[ob u]at q;obtain ⟨E,F,A,C,y⟩:=i;unfold aE.val at *;go_in;go_wp2_with fail;refine zK (q.out _) λ G j=>?_;have h:Hid (Below w.heap.size w G):=aA (aJ.trans (j.mono (by simp)))
 clear j q;unfold gV gX;go_wp2;refine zp (v:=.tuple #[.int .i64 0,.int .i64 1]) (by simp[results,results37,go_sem]) rfl ⟨by rw[D.out],?_⟩
 exact h.out.alloc h.out.size _
def KF (i) (w) (hr:right i=true) (av:sE):
    aG prog 37 #[i.val] w (.tuple #[.int .i64 (bQ i).1,.int .i64 (bQ i).2]):=by
 unfold aG;have a5:=aA av;have am:=aA (λ k=>Mi (i:=i) (k:=k) hr)
 have a4:=aA (OQ hr);have HR:=aA (λ w'=>iI i w')
 have aw:iL i=.tuple #[dE (i.op-1).toNat,.bool true]:=by unfold iL;rw[zt hr]
 rw[aw]at HR;have ao:Hid (aF w.heap.size (wu i) (w.alloc (.cells (wu i).toArray 26))):=aA (aF.new w (wu i) 26);have a7:=aA (λ k hk w'=>ML (fm k) i w' (A9 k hk))
 have a6:Hid (∀k,jU i k=((fm k).op==i.op&&((fW (fm k) (jR (fm k) i)).2&&nT (fW (fm k) (jR (fm k) i)).1 i))):=aA (λ k=>rfl)
 clear hr av aw;generalize bQ i=X at *;obtain ⟨A,D,u,y,q⟩:=i;unfold aE.val wu at *;simp only at *;have E:∃a b c d e f,dE (A-1).toNat=.agg #[.int .i64 a,.string b,.int .i64 c,.int .i64 d,.int .i64 e,.int .i64 f]:=⟨_,_,_,_,_,_,rfl⟩;obtain ⟨ra,rb,rc,ay,re,rf,E⟩:=E;rw[E]at HR;clear E;go_in;go_wp2_with fail;refine zK (HR.out _) λ w1 M=>?_;have Y:=aA ((ao.out.next M).alloc (.cells #[.int .i64 ra,.string rb,.int .i64 rc,.int .i64 ay,.int .i64 re,.int .i64 rf] 100));have G:Hid (Below w.heap.size w (w1.alloc (.cells #[.int .i64 ra,.string rb,.int .i64 rc,.int .i64 ay,.int .i64 re,.int .i64 rf] 100))):=aA (((aJ.trans (M.mono (by simp)))).alloc (by have:=M.size;simp at this;omega) _)
 clear M HR ao;go_wp2_with fail;generalize w1.alloc _=W1 at Y G ⊢;refine (EZ _).mono ?_;rintro e w2 ⟨rfl,rfl⟩;have aj:=aA (Y.out.alloc (.cells nj 115));have ai:=aA (G.out.alloc G.out.size (.cells nj 115));have aq:=aA Ch;clear Y G;generalize W1.alloc _=W2 at aj ai ⊢;generalize nj=FT at aq ⊢;go_wp2_with fail;go_loopw [19] (λ x wr=>∃k:Nat,k<=32/\x=.int .i64 k/\Hid (∀j,j<k->jU ⟨A,D,u,y,q⟩ j=false)/\aF w.heap.size [.int .i64 A,.int .i64 D,.int .i64 u,.int .i64 y,.int .i64 q] wr/\Below w.heap.size w wr) (λ x _=>32-(intOf x).toNat)
 case atStart=>exact ⟨0,by omega,rfl,aA (λ _ h=>by omega),aj.out,ai.out⟩
 case round=>
  obtain ⟨k,hk,rfl,ag,hC,hB⟩:=hrel;by_cases O:k<32
  .have bd:(k:Int)<32:=by omega
   have HC:=aA hC;have HB:=aA hB;obtain ⟨i0,i1,i2,i3,i4⟩:=bF hC.2.2;have bv:=hC.1;(have ar:=λ w'=>aq.out k w' O);(have L:=aA (λ w'=>a7.out k O w'));(have F:=aA (λ w'=>a5.out k O (jR (fm k) ⟨A,D,u,y,q⟩) w'));have C:=aA (a6.out k);have aa:=aA (am.out k O ag.out);(have K:=aA (λ h=>vE ag.out h));clear hC hB;generalize jU ⟨A,D,u,y,q⟩ k=hit at C aa K;unfold rF at ar F;generalize jR (fm k) ⟨A,D,u,y,q⟩=H at L F C aa;generalize fW (fm k) H=R at F C;generalize fm k=f at L F C ar;obtain ⟨⟨az,a0,Q,T,P⟩,ba⟩:=R;unfold eN at *;have al:Hid (aF wr.heap.size [.string ⟨f.half.toArray⟩,.string ⟨f.order.toArray⟩,.bool f.signed,.int .i64 f.op,.int .i64 f.rd,.int .i64 f.rs1,.int .i64 f.rs2,.func (.func (gr f.hold)) #[] #[]] (wr.alloc (.cells #[.string ⟨f.half.toArray⟩,.string ⟨f.order.toArray⟩,.bool f.signed,.int .i64 f.op,.int .i64 f.rd,.int .i64 f.rs1,.int .i64 f.rs2,.func (.func (gr f.hold)) #[] #[]] 114))):=aA (aF.new wr _ 114);have Z:=aA (HC.out.alloc (.cells #[.string ⟨f.half.toArray⟩,.string ⟨f.order.toArray⟩,.bool f.signed,.int .i64 f.op,.int .i64 f.rd,.int .i64 f.rs1,.int .i64 f.rs2,.func (.func (gr f.hold)) #[] #[]] 114));have I:=aA (HB.out.alloc HB.out.size (.cells #[.string ⟨f.half.toArray⟩,.string ⟨f.order.toArray⟩,.bool f.signed,.int .i64 f.op,.int .i64 f.rd,.int .i64 f.rs1,.int .i64 f.rs2,.func (.func (gr f.hold)) #[] #[]] 114));by_cases ah:f.op=A
   .subst ah
    go_wp2_with fail;refine zK (L.out _) λ w3 N=>?_;have ak:=aA (al.out.next N);have ab:=aA (Z.out.next N);have U:=aA (I.out.trans (N.mono I.out.size));clear N al Z I L;obtain ⟨c0,c1,c2,c3,c4,c5,c6,c7⟩:=z8 ak.out.2.2;have ax:=ab.out.1;go_wp2_with fail;refine zK (F.out _) λ w4 ac=>?_;have J:=aA (ab.out.next ac);have V:=aA (U.out.trans (ac.mono U.out.size));clear ac ak ab U F c0 c1 c2 c3 c4 c5 c6 c7 ax;unfold aE.val;simp only at *;obtain ⟨j0,j1,j2,j3,j4⟩:=bF J.out.2.2;have bf:=J.out.1;(have an:=aA (λ o=>J.out.alloc o));(have W:=aA (λ o=>V.out.alloc V.out.size o));clear J V
    cases ba with
    | false=>
     have hh:hit=false:=by
      rw[C.out];simp
     go_wp2;go_roundw;(case rel=>exact ⟨k+1,by omega,by go_num,aA (K.out hh),an.out _,W.out _⟩);case measure=>simp[intOf];omega
    | true=>
     by_cases ae:az=f.op/\a0=D/\Q=u/\T=y/\P=q
     .obtain ⟨rfl,rfl,rfl,rfl,rfl⟩:=ae
      have hh:hit=true:=by
       rw[C.out];simp[nT]
      have HX:=aA (aa.out hh);go_wp2;refine zp (v:=.tuple #[.int .i64 H,.int .i64 0]) (by simp[results,results37,go_sem]) rfl ⟨by rw[HX.out],W.out _⟩
     have hh:hit=false:=by
      rw[C.out]
      have:nT ⟨az,a0,Q,T,P⟩ ⟨f.op,D,u,y,q⟩=false:=by
       rw[Bool.eq_false_iff];intro h;simp[nT]at h;exact ae h
      simp only[this,Bool.and_false]
     go_wp2_with fail
     all_goals first
      | (exfalso;exact ae ⟨by assumption,by assumption,by assumption,by assumption,by assumption⟩)
      | (go_roundw
         (case rel=>exact ⟨k+1,by omega,by go_num,aA (K.out hh),an.out _,W.out _⟩);case measure=>simp[intOf];omega)
   have be:¬A=f.op:=λ e=>ah e.symm
   have hh:hit=false:=by
    rw[C.out];(have:(f.op==A)=false:=by simpa using ah);simp only[this,Bool.false_and]
   go_wp2;go_roundw;(case rel=>exact ⟨k+1,by omega,by go_num,aA (K.out hh),Z.out,I.out⟩);case measure=>simp[intOf];omega
  have au:k=32:=by omega
  subst au;have HX:=aA (a4.out ag.out);go_wp2;refine zp (v:=.tuple #[.int .i64 0,.int .i64 2]) (by simp[results,results37,go_sem]) rfl ⟨by rw[HX.out],hB⟩
def sL (i) (w) (j:sE):
    aG prog 37 #[i.val] w (.tuple #[.int .i64 (bQ i).1,.int .i64 (bQ i).2]):=by
 unfold aG;by_cases h:right i=true
 .exact KF i w h j
 exact Js i w (by simpa using h)
def iE (n:Int) (k:Nat):Bool:=(fW (fm k) n).2
def cE (n:Int):aE×Int:=if n<0\/65535<n then (⟨0,0,0,0,0⟩,1) else (match (List.range 32).find? (iE n) with|some k=>((fW (fm k) n).1,0)|none=>(⟨0,0,0,0,0⟩,1))
def Gk {n:Int} {k:Nat} (v:¬(n<0\/65535<n)) (u:k<32) (q:∀j,j<k->iE n j=false) (h:iE n k=true):cE n=((fW (fm k) n).1,0):=by
 unfold cE;rw[aC v,pp _ 32 k u q h]
def Vf {n:Int} (q:¬(n<0\/65535<n)) (h:∀j,j<32->iE n j=false):cE n=(⟨0,0,0,0,0⟩,1):=by
 unfold cE;rw[aC q,lX _ 32 h]
def z5:List Value:=[.int .i64 0,.int .i64 0,.int .i64 0,.int .i64 0,.int .i64 0]
def LU (n) (w) (h:n<0\/65535<n):
    aG prog 40 #[.int .i64 n] w (.tuple #[(cE n).1.val,.int .i64 (cE n).2]):=by
 unfold aG;have q:Hid (cE n=(⟨0,0,0,0,0⟩,1)):=aA (by unfold cE;rw[zt h])
 have j:Hid (Below w.heap.size w (w.alloc (.cells z5.toArray 26))):=aA aJ;unfold z5 at j;rcases h with h|h
 .go_in
  go_wp2;refine zp (v:=.tuple #[(aE.mk 0 0 0 0 0).val,.int .i64 1]) (by simp[results,results40,go_sem,aE.val]) rfl ⟨by rw[q.out],?_⟩
  exact j.out
 have u:¬n<0:=by omega
 go_in;go_wp2;refine zp (v:=.tuple #[(aE.mk 0 0 0 0 0).val,.int .i64 1]) (by simp[results,results40,go_sem,aE.val]) rfl ⟨by rw[q.out],?_⟩
 exact j.out
def N8 (n) (w) (hn:¬(n<0\/65535<n)) (af:sE):
    aG prog 40 #[.int .i64 n] w (.tuple #[(cE n).1.val,.int .i64 (cE n).2]):=by
 unfold aG;have ak:=aA af;have Y:=aA (λ k=>Gk (n:=n) (k:=k) hn)
 have aj:=aA (Vf hn);have al:Hid (∀k,iE n k=(fW (fm k) n).2):=aA (λ k=>rfl)
 have h0:¬n<0:=λ h=>hn (.inl h)
 have h1:¬65535<n:=λ h=>hn (.inr h)
 have L:Hid (aF w.heap.size z5 (w.alloc (.cells z5.toArray 26))):=aA (aF.new w z5 26);have G:Hid (Below w.heap.size w (w.alloc (.cells z5.toArray 26))):=aA aJ;unfold z5 at L G;clear hn af;generalize cE n=X at *;go_in;go_wp2_with fail;generalize w.alloc _=W1 at *;refine (EZ _).mono ?_;rintro e w2 ⟨rfl,rfl⟩;have V:=aA (L.out.alloc (.cells nj 115));have T:=aA (G.out.alloc G.out.size (.cells nj 115));have Z:=aA Ch;clear L G;generalize W1.alloc _=W2 at V T ⊢;generalize nj=FT at Z ⊢;go_wp2_with fail;go_loopw [16] (λ x wr=>∃k:Nat,k<=32/\x=.int .i64 k/\Hid (∀j,j<k->iE n j=false)/\aF w.heap.size [.int .i64 0,.int .i64 0,.int .i64 0,.int .i64 0,.int .i64 0] wr/\Below w.heap.size w wr) (λ x _=>32-(intOf x).toNat)
 case atStart=>exact ⟨0,by omega,rfl,aA (λ _ h=>by omega),V.out,T.out⟩
 case round=>
  obtain ⟨k,hk,rfl,O,P,hB⟩:=hrel;by_cases N:k<32
  .have au:(k:Int)<32:=by omega
   have HC:=aA P;have Q:=aA hB;have a2:=P.1;(have ab:=λ w'=>Z.out k w' N);(have E:=aA (λ w'=>ak.out k N n w'));have H:=aA (al.out k);have K:=aA (Y.out k N O.out);(have aa:=aA (λ h=>vE O.out h));clear P hB;generalize iE n k=hit at H K aa;unfold rF at ab E;generalize fW (fm k) n=R at E H K;generalize fm k=f at E ab;obtain ⟨⟨A,C,u,y,q⟩,aq⟩:=R;unfold eN at *;have W:=aA (HC.out.alloc (.cells #[.string ⟨f.half.toArray⟩,.string ⟨f.order.toArray⟩,.bool f.signed,.int .i64 f.op,.int .i64 f.rd,.int .i64 f.rs1,.int .i64 f.rs2,.func (.func (gr f.hold)) #[] #[]] 114));have J:=aA (Q.out.alloc Q.out.size (.cells #[.string ⟨f.half.toArray⟩,.string ⟨f.order.toArray⟩,.bool f.signed,.int .i64 f.op,.int .i64 f.rd,.int .i64 f.rs1,.int .i64 f.rs2,.func (.func (gr f.hold)) #[] #[]] 114));clear HC Q;go_wp2_with fail;refine zK (E.out _) λ w4 M=>?_;have D:=aA (W.out.next M);have I:=aA (J.out.trans (M.mono J.out.size));clear M W J E;unfold aE.val;simp only at *;have av:=D.out.1;have ai:=aA (D.out.alloc (.cells #[.int .i64 A,.int .i64 C,.int .i64 u,.int .i64 y,.int .i64 q] 26));have ah:=aA (I.out.alloc I.out.size (.cells #[.int .i64 A,.int .i64 C,.int .i64 u,.int .i64 y,.int .i64 q] 26))
   cases aq with
   | false=>
    (have hh:hit=false:=by rw[H.out]);go_wp2;go_roundw;(case rel=>exact ⟨k+1,by omega,by go_num,aA (aa.out hh),ai.out,ah.out⟩);case measure=>simp[intOf];omega
   | true=>
    (have hh:hit=true:=by rw[H.out]);have HX:=aA (K.out hh);obtain ⟨y0,y1,y2,y3,y4⟩:=bF D.out.2.2;have yf:=D.out.2.1;go_wp2_with fail;have U:=aA ((((((I.out.setCell (p:=⟨w.heap.size,0,none⟩) zn (.int .i64 A)).setCell (p:=⟨w.heap.size,1,none⟩) zn (.int .i64 C)).setCell (p:=⟨w.heap.size,2,none⟩) zn (.int .i64 u)).setCell (p:=⟨w.heap.size,3,none⟩) zn (.int .i64 y)).setCell (p:=⟨w.heap.size,4,none⟩) zn (.int .i64 q)));(have an:=((((D.out.set 0 (.int .i64 A) (by simp)).set 1 (.int .i64 C) (by simp)).set 2 (.int .i64 u) (by simp)).set 3 (.int .i64 y) (by simp)).set 4 (.int .i64 q) (by simp));have F:=λ o=>an.alloc o
    refine zp (v:=.tuple #[(aE.mk A C u y q).val,.int .i64 0]) (by
     (have x0:=λ o=>(F o).2.2 0 (.int .i64 A) rfl);(have x1:=λ o=>(F o).2.2 1 (.int .i64 C) rfl);(have x2:=λ o=>(F o).2.2 2 (.int .i64 u) rfl);(have x3:=λ o=>(F o).2.2 3 (.int .i64 y) rfl);(have x4:=λ o=>(F o).2.2 4 (.int .i64 q) rfl);simp[results,results40,go_sem,x0,x1,x2,x3,x4,aE.val]) rfl ⟨by rw[HX.out],?_⟩
    exact U.out.alloc U.out.size _
  have ac:k=32:=by omega
  subst ac;have HX:=aA (aj.out O.out);have Q:=aA hB;obtain ⟨y0,y1,y2,y3,y4⟩:=bF P.2.2;have yf:=P.2.1;clear P hB;go_wp2;refine zp (v:=.tuple #[(aE.mk 0 0 0 0 0).val,.int .i64 1]) (by simp[results,results40,go_sem,y0,y1,y2,y3,y4,aE.val]) rfl ⟨by rw[HX.out],?_⟩
  exact (((((Q.out.setCell (by simp) _).setCell (by simp) _).setCell (by simp) _).setCell (by simp) _).setCell (by simp) _)
