import Derived.Test.YtbmcofdodfcnnaaGreatDoorGW10
set_option linter.all false
set_option maxHeartbeats 0
set_option maxRecDepth 100000
namespace Go
open Proofs.Tryz
variable {w w2 : World} {n cap b base : Nat} {rs : List Int}
def qQ:∀(l:List aI) (F:List UInt8) (rs:List Int) (n:Int) (nm:ByteArray) (rs':List Int) (v:Int) (j:ByteArray),aL l F rs n nm=some (rs',v,j)->116∉F->j=nm
 | [],[],rs,n,nm,rs',v,j,h,_=>by simp[aL]at h;exact h.2.2.symm
 | [],f::F,_,_,_,_,_,_,h,_=>by simp[aL]at h
 | t::l,[],_,_,_,_,_,_,h,_=>by simp[aL]at h
 | t::l,f::F,rs,n,nm,rs',v,j,h,hn=>by
  have u:f≠116:=λ e=>hn (by simp[e])
  have q:116∉F:=λ e=>hn (by simp[e])
  simp only[aL]at h
  split at h
  .split at h
   .cases h
   exact qQ l F _ _ _ _ _ _ h q
  split at h
  .exact qQ l F _ _ _ _ _ _ h q
  split at h
  .rename_i hf
   exact absurd hf.1 u
  split at h
  .exact qQ l F _ _ _ _ _ _ h q
  cases h
open RowKit
def jQ:Obj:=.cells #[.int .i64 0,.int .i64 0,.int .i64 0,.int .i64 0,.int .i64 0,.string ⟨#[]⟩,.bool false,.string ⟨#[]⟩,.int .i64 0,.int .i64 0] 224
def iv (i:aE) (nm:ByteArray):Value:=.agg #[.int .i64 i.op,.int .i64 i.rd,.int .i64 i.rs1,.int .i64 i.rs2,.int .i64 i.imm,.string nm,.bool false,.string ⟨#[]⟩,.int .i64 0,.int .i64 0]
def Wi (t:aI) (w:World) (C:Array Value) (i:Value) (wr:World):Prop:=
 ∃j:Nat,j<=64/\i=.int .i64 j/\Hid (∀j',j'<j->named t j'=false)/\Below (w.heap.size+3) (((w.alloc jQ).alloc jQ).alloc (.cells C 214)) wr
def IZ (w:World) (b kd:Nat) (w2:World):Prop:=
 w2.cell? ⟨b,1,none⟩=some (.int .u8 kd)/\w.heap.size+3<=b/\b<w2.heap.size/\Below (w.heap.size+2) ((w.alloc jQ).alloc jQ) w2
def SC {wr:World} {C:Array Value} (h:Below (w.heap.size+3) (((w.alloc jQ).alloc jQ).alloc (.cells C 214)) wr) (j:w.heap.size+3<=wr.heap.size) (s) (kd) (a b c) (t nq):IZ w wr.heap.size kd ((wr.alloc (.cells #[.string s,.int .u8 kd,a,b,c] t)).drewN nq):=
 ⟨by go_simp,j,by show wr.heap.size<(wr.alloc _).heap.size;simp,below_drewN (((aU.alloc (by simp) _).trans (h.mono (by omega))).alloc (by omega) _) _⟩
def NA {t:aI} {l:List aI} {g o:Nat} (G:l.length+1=n) (E:∀k u,(t::l)[k]?=some u->w.cell? ⟨g,o+k*4,none⟩=some (.int .u8 u.kind)/\w.cell? ⟨g,o+k*4+1,none⟩=some (.string u.S)/\w.cell? ⟨g,o+k*4+2,none⟩=some (.int .i64 u.num)/\w.cell? ⟨g,o+k*4+3,none⟩=some (.bool u.blank)) (j:g<w.heap.size) (D:Below (w.heap.size+2) ((w.alloc jQ).alloc jQ) w2):kx w2 (.slice (some ⟨g,o+4,none⟩) (n-1) cap) l:=by
 have e:n-1=l.length:=by omega
 have h:Below w.heap.size w w2:=(aJ.alloc (by simp) _).trans (D.mono (by omega))
 refine ⟨_,_,by rw[e],λ _=>⟨g,o+4,rfl,by have:=h.size;omega,λ k u F=>?_⟩⟩
 obtain ⟨q,v,y,A⟩:=E (k+1) u (by simpa using F)
 have C:o+(k+1)*4=o+4+k*4:=by omega
 rw[C]at q v y A;exact ⟨(h.cell (p:=⟨g,_,none⟩) j).trans q,(h.cell (p:=⟨g,_,none⟩) j).trans v,(h.cell (p:=⟨g,_,none⟩) j).trans y,(h.cell (p:=⟨g,_,none⟩) j).trans A⟩
def qd {l:List aI} {j:Option Addr} (u:l.length+1=n) (q:n=1):kx w (.slice j (n-1) cap) l:=by
 have e:l=[]:=List.eq_nil_of_length_eq_zero (by omega)
 subst e;exact ⟨j,cap,by rw[q];rfl,λ h=>absurd rfl h⟩
def rH (l:List aI) (F:List UInt8) (w2:World) (v nn nm ok:Value) (wx:World):Prop:=
 (match aL l F [] 0 ⟨#[]⟩ with
 | none=>ok=.bool false
 | some (rs,n,s)=>nn=.int .i64 n/\nm=.string s/\ok=.bool true/\wx.ownsRow w2.heap.size 3 1 v rs.length (rs.map (.int .i64)))/\Below w2.heap.size w2 wx
def eU (b:Nat) (i:aE) (nm:ByteArray) (wx:World):Prop:=
 (wx.cell? ⟨b,0,none⟩=some (.int .i64 i.op)/\wx.cell? ⟨b,1,none⟩=some (.int .i64 i.rd)/\wx.cell? ⟨b,2,none⟩=some (.int .i64 i.rs1)/\wx.cell? ⟨b,3,none⟩=some (.int .i64 i.rs2)/\wx.cell? ⟨b,4,none⟩=some (.int .i64 i.imm))/\
 (wx.cell? ⟨b,5,none⟩=some (.string nm)/\wx.cell? ⟨b,6,none⟩=some (.bool false)/\wx.cell? ⟨b,7,none⟩=some (.string ⟨#[]⟩)/\wx.cell? ⟨b,8,none⟩=some (.int .i64 0)/\wx.cell? ⟨b,9,none⟩=some (.int .i64 0))/\(∀q,wx.frozen? ⟨b,q,none⟩=false)
def eU.below {B:Nat} {i:aE} {nm:ByteArray} {w':World} (h:eU b i nm w) (j:Below B w w') (u:b<B):eU b i nm w':=by
 obtain ⟨⟨v,y,A,C,D⟩,⟨E,F,G,h8,H⟩,I⟩:=h
 exact ⟨⟨(j.cell (p:=⟨b,0,none⟩) u).trans v,(j.cell (p:=⟨b,1,none⟩) u).trans y,(j.cell (p:=⟨b,2,none⟩) u).trans A,(j.cell (p:=⟨b,3,none⟩) u).trans C,(j.cell (p:=⟨b,4,none⟩) u).trans D⟩,
  ⟨(j.cell (p:=⟨b,5,none⟩) u).trans E,(j.cell (p:=⟨b,6,none⟩) u).trans F,(j.cell (p:=⟨b,7,none⟩) u).trans G,(j.cell (p:=⟨b,8,none⟩) u).trans h8,(j.cell (p:=⟨b,9,none⟩) u).trans H⟩,
  λ q=>(j.frozen (p:=⟨b,q,none⟩) u).trans (I q)⟩
def Ca (w:World):eU w.heap.size ⟨0,0,0,0,0⟩ ⟨#[]⟩ (w.alloc jQ):=by
 unfold jQ;exact ⟨⟨by go_simp,by go_simp,by go_simp,by go_simp,by go_simp⟩,⟨by go_simp,by go_simp,by go_simp,by go_simp,by go_simp⟩,λ q=>by go_simp⟩
def D6 (h:Below (w.heap.size+2) ((w.alloc jQ).alloc jQ) w2):Hid (eU w.heap.size ⟨0,0,0,0,0⟩ ⟨#[]⟩ w2)/\Hid (eU (w.heap.size+1) ⟨0,0,0,0,0⟩ ⟨#[]⟩ w2):=by
 have e:(w.alloc jQ).heap.size=w.heap.size+1:=mU _ _;refine ⟨((Ca w).below ((Below.refl (w.heap.size+1) _).alloc (by omega) _) (by omega)).below h (by omega),?_⟩
 have:=Ca (w.alloc jQ);rw[e]at this;exact this.below h (by omega)
def sQ {q:World} (h:Below w.heap.size w q) (a b c d e f g i j k):
    Below w.heap.size w ((((((((((q.setCell ⟨w.heap.size,0,none⟩ a).setCell ⟨w.heap.size,1,none⟩ b).setCell ⟨w.heap.size,2,none⟩ c).setCell ⟨w.heap.size,3,none⟩ d).setCell ⟨w.heap.size,4,none⟩ e).setCell ⟨w.heap.size,5,none⟩ f).setCell ⟨w.heap.size,6,none⟩ g).setCell ⟨w.heap.size,7,none⟩ i).setCell ⟨w.heap.size,8,none⟩ j).setCell ⟨w.heap.size,9,none⟩ k):=
 (((((kA h a b c d e).setCell zn _).setCell zn _).setCell zn _).setCell zn _).setCell zn _
def eU.set_op {i:aE} {nm:ByteArray} (h:eU b i nm w) (v):eU b { i with op:=v } nm (w.setCell ⟨b,0,none⟩ (.int .i64 v)):=by
 obtain ⟨⟨j,u,y,A,C⟩,⟨D,E,F,h8,G⟩,H⟩:=h;exact ⟨⟨by go_simp,by go_simp,by go_simp,by go_simp,by go_simp⟩,⟨by go_simp,by go_simp,by go_simp,by go_simp,by go_simp⟩,λ q=>by go_simp⟩
def eU.set_rd {i:aE} {nm:ByteArray} (h:eU b i nm w) (v):eU b { i with rd:=v } nm (w.setCell ⟨b,1,none⟩ (.int .i64 v)):=by
 obtain ⟨⟨j,u,y,A,C⟩,⟨D,E,F,h8,G⟩,H⟩:=h;exact ⟨⟨by go_simp,by go_simp,by go_simp,by go_simp,by go_simp⟩,⟨by go_simp,by go_simp,by go_simp,by go_simp,by go_simp⟩,λ q=>by go_simp⟩
def eU.set_rs1 {i:aE} {nm:ByteArray} (h:eU b i nm w) (v):eU b { i with rs1:=v } nm (w.setCell ⟨b,2,none⟩ (.int .i64 v)):=by
 obtain ⟨⟨j,u,y,A,C⟩,⟨D,E,F,h8,G⟩,H⟩:=h;exact ⟨⟨by go_simp,by go_simp,by go_simp,by go_simp,by go_simp⟩,⟨by go_simp,by go_simp,by go_simp,by go_simp,by go_simp⟩,λ q=>by go_simp⟩
def eU.set_rs2 {i:aE} {nm:ByteArray} (h:eU b i nm w) (v):eU b { i with rs2:=v } nm (w.setCell ⟨b,3,none⟩ (.int .i64 v)):=by
 obtain ⟨⟨j,u,y,A,C⟩,⟨D,E,F,h8,G⟩,H⟩:=h;exact ⟨⟨by go_simp,by go_simp,by go_simp,by go_simp,by go_simp⟩,⟨by go_simp,by go_simp,by go_simp,by go_simp,by go_simp⟩,λ q=>by go_simp⟩
def eU.set_imm {i:aE} {nm:ByteArray} (h:eU b i nm w) (v):eU b { i with imm:=v } nm (w.setCell ⟨b,4,none⟩ (.int .i64 v)):=by
 obtain ⟨⟨j,u,y,A,C⟩,⟨D,E,F,h8,G⟩,H⟩:=h;exact ⟨⟨by go_simp,by go_simp,by go_simp,by go_simp,by go_simp⟩,⟨by go_simp,by go_simp,by go_simp,by go_simp,by go_simp⟩,λ q=>by go_simp⟩
def eU.set_nm {i:aE} {nm:ByteArray} (h:eU b i nm w) (v):eU b i v (w.setCell ⟨b,5,none⟩ (.string v)):=by
 obtain ⟨⟨j,u,y,A,C⟩,⟨D,E,F,h8,G⟩,H⟩:=h;exact ⟨⟨by go_simp,by go_simp,by go_simp,by go_simp,by go_simp⟩,⟨by go_simp,by go_simp,by go_simp,by go_simp,by go_simp⟩,λ q=>by go_simp⟩
def eU.other {c:Nat} {i:aE} {nm:ByteArray} (h:eU b i nm w) (j:b≠c) (o) (v):eU b i nm (w.setCell ⟨c,o,none⟩ v):=by
 have u:∀q,(w.setCell ⟨c,o,none⟩ v).cell? ⟨b,q,none⟩=w.cell? ⟨b,q,none⟩:=λ q=>World.cell?_of_block (w:=w) (Below.heap_setCell w ⟨c,o,none⟩ v b j)
 have y:∀q,(w.setCell ⟨c,o,none⟩ v).frozen? ⟨b,q,none⟩=w.frozen? ⟨b,q,none⟩:=λ q=>World.frozen?_of_block (w:=w) (Below.heap_setCell w ⟨c,o,none⟩ v b j)
 unfold eU;simp only[u,y];exact h
def GZ {t:aI} {l:List aI} {tg:Bool} {I J:aE} {nm:ByteArray} {c:Int} {r:Bool} (h:plain t l tg=(I,nm,if right I then 0 else 5)) (j:I=J) (u:right J=r) (q:c=if r then 0 else 5):
    Ending.returned (.tuple #[iv J nm,.int .i64 c])=.returned (.tuple #[iv (plain t l tg).1 (plain t l tg).2.1,.int .i64 (plain t l tg).2.2]):=by
 rw[h,j,u,q]
def Bj (h:rs.length=1):∃a,rs=[a]:=by
 match rs,h with | [a],_=>exact ⟨a,rfl⟩
def wO (h:rs.length=2):∃a b,rs=[a,b]:=by
 match rs,h with | [a,b],_=>exact ⟨a,b,rfl⟩
def QW (h:rs.length=3):∃a b c,rs=[a,b,c]:=by
 match rs,h with | [a,b,c],_=>exact ⟨a,b,c,rfl⟩
def sA {e:TypeId} {v:Value} {A:List Value} (h:w.ownsRow base e 1 v n A) (G:0<n):
    ∃g cap,v=.slice (some ⟨g,0,none⟩) n cap/\base<=g/\n<=cap/\∀j u,A[j]?=some u->w.cell? ((⟨g,0,none⟩:Addr).add j)=some u:=by
 have E:=h;obtain ⟨_,F|⟨g,cap,C,y,D,_,q,_⟩⟩:=h
 .omega
 exact ⟨g,cap,y,D,q,E.cells (by rw[y];rfl)⟩
def FF (tg) (t:aI) (l:List aI) (g o cap) (w) (hl:l.length<=1999) (hg:g<w.heap.size) (dp:l.length+1<=cap) (hc:∀k u,(t::l)[k]?=some u->w.cell? ⟨g,o+k*4,none⟩=some (.int .u8 u.kind)/\w.cell? ⟨g,o+k*4+1,none⟩=some (.string u.S)/\w.cell? ⟨g,o+k*4+2,none⟩=some (.int .i64 u.num)/\w.cell? ⟨g,o+k*4+3,none⟩=some (.bool u.blank)):
    Calls prog 164 #[.slice (some ⟨g,o,none⟩) (l.length+1) cap,.bool tg] w λ e w'=>
     e=.returned (.tuple #[iv (plain t l tg).1 (plain t l tg).2.1,.int .i64 (plain t l tg).2.2])/\Below w.heap.size w w':=by
 obtain ⟨t0,t1,_,_⟩:=hc 0 t rfl;simp only[Nat.zero_mul,Nat.add_zero]at t0 t1;have HC:=aB hc;clear hc;generalize hn:l.length+1=n at *;have HL:=aB hn;have dQ:0<n:=by omega
 have ei:(0:Int)<n:=by omega
 have eh:n<=2000:=by omega
 clear hn hl;go_in;go_wp2_with (go_at_call 157;refine (ox _).mono ?_;rintro e w' ⟨C,hC,rfl,rfl⟩);go_loopw [8] (λ i wr=>Wi t w C i wr) (λ i _=>64-(intOf i).toNat)
 case atStart=>exact ⟨0,by omega,rfl,λ _ h=>by omega,aU⟩
 case round=>
  obtain ⟨k,hk,rfl,aj,hB⟩:=hrel;by_cases az:k<64
  .obtain ⟨Z,r1,r2,r3,r4⟩:=hC k az
   (have tc:∀q,wr.cell? ⟨w.heap.size+2,q,none⟩=C[q]?:=λ q=>(hB.cell (p:=⟨w.heap.size+2,q,none⟩) (by simp)).trans (by go_simp));have s0:=(tc (k*5)).trans Z;have s1:=(tc (k*5+1)).trans r1;have s2:=(tc (k*5+2)).trans r2;have s3:=(tc (k*5+3)).trans r3;have s4:=(tc (k*5+4)).trans r4;(have ah:Below w.heap.size w wr:=((aJ.alloc (by simp) _).alloc (by simp;omega) _).trans (hB.mono (by omega)));have y0:wr.cell? ⟨g,o,none⟩=some (.int .u8 t.kind):=(ah.cell (p:=⟨g,o,none⟩) hg).trans t0;have y1:wr.cell? ⟨g,o+1,none⟩=some (.string t.S):=(ah.cell (p:=⟨g,o+1,none⟩) hg).trans t1;(have cz:g<wr.heap.size:=by have:=ah.size;omega);have cc:=aB ah;have HB:=aB hB;(have hz:w.heap.size+3<=wr.heap.size:=by have:=hB.size;simp at this;omega);(have dq:(k:Int)<64:=by omega);clear hC hB ah tc Z r1 r2 r3 r4;by_cases k1:(t.kind != 119)=true
   .go_wp2_with fail
    go_quiet (fail);go_wp2;go_roundw;(case rel=>exact ⟨k+1,by omega,by go_num,Gm aj.out (M1 k1),below_drewN (HB.out.alloc hz _) _⟩);case measure=>simp[intOf];omega
   (have bs:(t.kind != 119)=false:=by simpa using k1);clear k1;by_cases k2:(t.S.toList==(row k).name)=true
   .go_wp2_with fail
    go_quiet (fail);have HP:=aB (pp (named t) 64 k az aj.out (Ms bs k2));have U:IZ w wr.heap.size (row k).kind ((wr.alloc (.cells #[.string { data:=(row k).name.toArray },.int .u8 ↑(row k).kind,.int .i64 (row k).opc,.int .i64 (row k).f,.int .i64 (row k).g] 214)).drewN nq):=SC HB.out hz _ _ _ _ _ _ _;clear s0 s1 s2 s3 s4 y0 y1 HB cc bs k2 aj cz;generalize hb:wr.heap.size=b at *;clear hb;generalize (wr.alloc (.cells #[.string { data:=(row k).name.toArray },.int .u8 ↑(row k).kind,.int .i64 (row k).opc,.int .i64 (row k).f,.int .i64 (row k).g] 214)).drewN nq=w2 at U ⊢;(have bp:=aB (λ (F:ByteArray) (v:Value) (P:kx w2 v l)=>o8 l F v w2 (by have:=aM HL;omega) P));have HT:=aB (NA (cap:=cap-1) (aM HL) (aM HC) hg U.2.2.2);obtain ⟨q1,ee,cu,ax⟩:=U;obtain ⟨aa,V⟩:=D6 ax;(have ej:w.heap.size+3<=w2.heap.size:=by omega);(have bo:=aB ((aJ.alloc (by simp) _).trans (ax.mono (show w.heap.size<=w.heap.size+2 by omega))));clear ax;go_upto_block 2 with fail;go_cut [10] (λ f wx=>f=.string ⟨(fP (row k).kind).toArray⟩/\w2=wx)
    case first=>
     go_wp2_with fail
     all_goals
      go_meet
      case rel=>
       refine ⟨?_,rfl⟩;simp only[beq_iff_eq,beq_eq_false_iff_ne,ne_eq]at *;unfold fP
       first
       | rw[zt (by omega)]
       | rw[aC (by omega),zt (by omega)]
       | rw[aC (by omega),aC (by omega),zt (by omega)]
       | rw[aC (by omega),aC (by omega),aC (by omega),zt (by omega)]
       | rw[aC (by omega),aC (by omega),aC (by omega),aC (by omega),zt (by omega)]
       | rw[aC (by omega),aC (by omega),aC (by omega),aC (by omega),aC (by omega),zt (by omega)]
       | rw[aC (by omega),aC (by omega),aC (by omega),aC (by omega),aC (by omega),aC (by omega)]
    case rest=>
     obtain ⟨rfl,hw⟩:=hcut;subst hw;go_upto_region 25 with fail;go_cut [0,11,12,13,14] (λ l0 v Y nm ok wx=>l0=.slice (some ⟨g,o,none⟩) n cap/\rH l (fP (row k).kind) w2 v Y nm ok wx)
     case first=>
      go_wp2_with fail
      .refine (aM bp _ _ (qd (aM HL) (by omega))).mono ?_
       rintro e wx ⟨X,K⟩;replace X:fM (aL l (fP (row k).kind) [] 0 ⟨#[]⟩) w2 e wx:=X;have ac:=aB K;clear K
       cases hop:aL l (fP (row k).kind) [] 0 ⟨#[]⟩ with
       | none=>
        rw[hop]at X;have M:=aB hop;clear hop;simp only[fM]at X;subst X;go_wp2_with fail;go_meet;case rel=>exact ⟨by first|rfl|rw[‹cap=1›],by rw[aM M],ac.out⟩
       | some r=>
        obtain ⟨rs,Y,nm⟩:=r;rw[hop]at X;have M:=aB hop;clear hop;simp only[fM]at X;obtain ⟨v,he,L⟩:=X;have Q:=aB L;clear L;subst he;go_wp2_with fail;go_meet;case rel=>exact ⟨by first|rfl|rw[‹cap=1›],by rw[aM M];exact ⟨rfl,rfl,rfl,Q.out⟩,ac.out⟩
      refine (aM bp _ _ (aM HT)).mono ?_;rintro e wx ⟨X,K⟩;replace X:fM (aL l (fP (row k).kind) [] 0 ⟨#[]⟩) w2 e wx:=X;have ac:=aB K;clear K
      cases hop:aL l (fP (row k).kind) [] 0 ⟨#[]⟩ with
      | none=>
       rw[hop]at X;have M:=aB hop;clear hop;simp only[fM]at X;subst X;go_wp2_with fail;go_meet;case rel=>exact ⟨by first|rfl|rw[‹cap=1›],by rw[aM M],ac.out⟩
      | some r=>
       obtain ⟨rs,Y,nm⟩:=r;rw[hop]at X;have M:=aB hop;clear hop;simp only[fM]at X;obtain ⟨v,he,L⟩:=X;have Q:=aB L;clear L;subst he;go_wp2_with fail;go_meet;case rel=>exact ⟨by first|rfl|rw[‹cap=1›],by rw[aM M];exact ⟨rfl,rfl,rfl,Q.out⟩,ac.out⟩
     case rest=>
      obtain ⟨rfl,hP,K⟩:=hcut;(have R:=aB ((aM aa).below K (by omega)));(have O:=aB ((aM V).below K (by omega)));have q2:=(K.cell (p:=⟨b,1,none⟩) cu).trans q1;have ek:w2.heap.size<=wc.heap.size:=K.size;(have N:=aB (bo.out.trans (K.mono (by omega))));have ac:=aB K;clear K q1 aa V
      cases hop:aL l (fP (row k).kind) [] 0 ⟨#[]⟩ with
      | none=>
       rw[hop]at hP;have W:=aB (qo HP.out hop tg);clear hop;subst hP;obtain ⟨⟨x0,x1,x2,x3,x4⟩,⟨x5,x6,x7,x8,x9⟩,xf⟩:=id R.out;obtain ⟨⟨y0,y1,y2,y3,y4⟩,⟨y5,y6,y7,y8,y9⟩,yf⟩:=id O.out;go_wp2;(refine zp (v:=.tuple #[iv ⟨0,0,0,0,0⟩ ⟨#[]⟩,.int .i64 4]) (by simp[results,results164,go_sem,x0,x1,x2,x3,x4,x5,x6,x7,x8,x9,iv]) rfl ⟨by rw[W.out],?_⟩);exact sQ N.out _ _ _ _ _ _ _ _ _ _
      | some r=>
       obtain ⟨rs,Y,nm⟩:=r;rw[hop]at hP;have M:=aB hop;clear hop;obtain ⟨e1,e2,e3,L⟩:=hP;subst e1 e2 e3;have Q:=aB L;clear L;have ae:=aB (oa _ _ _ _ _ _ _ _ M.out);by_cases ai:nm.toList.isEmpty=false/\tg=false
       .obtain ⟨bq,rfl⟩:=ai
        have W:=aB (BJ HP.out M.out bq);obtain ⟨⟨x0,x1,x2,x3,x4⟩,⟨x5,x6,x7,x8,x9⟩,xf⟩:=id R.out;obtain ⟨⟨y0,y1,y2,y3,y4⟩,⟨y5,y6,y7,y8,y9⟩,yf⟩:=id O.out;go_wp2;(refine zp (v:=.tuple #[iv ⟨0,0,0,0,0⟩ ⟨#[]⟩,.int .i64 4]) (by simp[results,results164,go_sem,x0,x1,x2,x3,x4,x5,x6,x7,x8,x9,iv]) rfl ⟨by rw[W.out],?_⟩);exact sQ N.out _ _ _ _ _ _ _ _ _ _
       have ba:nm.toList.isEmpty=true\/(nm.toList.isEmpty=false/\tg=true):=by
        cases hx:nm.toList.isEmpty
        .cases hy:tg
         .exact absurd ⟨hx,hy⟩ ai
         exact .inr ⟨rfl,rfl⟩
        exact .inl rfl
       (have W:=aB (xB (tg:=tg) HP.out M.out (by rcases ba with h|h;exact .inl h;exact .inr h.2)));clear ai;go_upto_region 26 with fail;go_cut [76] from 200 to 200 (λ q wx=>q=.bool false/\wc=wx)
       case first=>
        rcases ba with ay|⟨ay,rfl⟩
        all_goals
         go_wp2_with fail;go_meet;case rel=>exact ⟨rfl,rfl⟩
       case rest=>
        obtain ⟨rfl,hw⟩:=hcut;subst hw;clear ba;(have y:w.heap.size<=w.heap.size+1:=by omega);(have A:w.heap.size≠w.heap.size+1:=by omega);obtain ⟨⟨y0,y1,y2,y3,y4⟩,⟨y5,y6,y7,y8,y9⟩,yf⟩:=id O.out;go_upto_block 3 with fail;go_cut [8,10,42,88] from 89 to 156 (λ q _ _ _ wx=>q=.int .i64 k/\∃I:aE,Hid (fR k rs Y=I)/\Hid (eU (w.heap.size+1) I nm wx)/\Hid (eU w.heap.size ⟨0,0,0,0,0⟩ ⟨#[]⟩ wx)/\Hid (Below w.heap.size w wx))
        case first=>
         rcases kinds k az with D|D|D|D|D|D|D|D|D|D
         all_goals
          first
          | (have U:=aB (G4 k rs Y (by omega))
             rw[D];(have G:rs.length=3:=by have:=ae.out;rw[D]at this;simpa[fP] using this);clear D;have hx:=QW G;obtain ⟨Z,r1,r2,rfl⟩:=hx;(obtain ⟨J,H,P,an,T,E⟩:=sA Q.out (by simp));replace P:u11=.slice (some ⟨J,0,none⟩) 3 H:=P;subst P;have z0:wc.cell? ⟨J,0,none⟩=some (.int .i64 Z):=E 0 _ rfl;have z1:wc.cell? ⟨J,1,none⟩=some (.int .i64 r1):=E 1 _ rfl;have z2:wc.cell? ⟨J,2,none⟩=some (.int .i64 r2):=E 2 _ rfl;(have ao:J≠w.heap.size+1:=by omega);(have ab:w.heap.size+1≠J:=by omega);clear E;clear G;go_wp2_with fail;go_meet;case rel=>exact ⟨rfl,⟨k+1,Z,r1,r2,Y⟩,U,aB ((((((O.out.set_op _).set_imm _).set_nm _).set_rd _).set_rs1 _).set_rs2 _),aB ((((((R.out.other A _ _).other A _ _).other A _ _).other A _ _).other A _ _).other A _ _),aB ((((((N.out.setCell y _).setCell y _).setCell y _).setCell y _).setCell y _).setCell y _)⟩)
          | (have U:=aB (xP k rs Y (by omega))
             rw[D];(have G:rs.length=2:=by have:=ae.out;rw[D]at this;simpa[fP] using this);clear D;have hx:=wO G;obtain ⟨Z,r1,rfl⟩:=hx;(obtain ⟨J,H,P,an,T,E⟩:=sA Q.out (by simp));replace P:u11=.slice (some ⟨J,0,none⟩) 2 H:=P;subst P;have z0:wc.cell? ⟨J,0,none⟩=some (.int .i64 Z):=E 0 _ rfl;have z1:wc.cell? ⟨J,1,none⟩=some (.int .i64 r1):=E 1 _ rfl;(have ao:J≠w.heap.size+1:=by omega);(have ab:w.heap.size+1≠J:=by omega);clear E;clear G;go_wp2_with fail;go_meet;case rel=>exact ⟨rfl,⟨k+1,Z,r1,0,Y⟩,U,aB (((((O.out.set_op _).set_imm _).set_nm _).set_rd _).set_rs1 _),aB (((((R.out.other A _ _).other A _ _).other A _ _).other A _ _).other A _ _),aB (((((N.out.setCell y _).setCell y _).setCell y _).setCell y _).setCell y _)⟩)
          | (have U:=aB (Gc k rs Y (by omega))
             rw[D];(have G:rs.length=2:=by have:=ae.out;rw[D]at this;simpa[fP] using this);clear D;have hx:=wO G;obtain ⟨Z,r1,rfl⟩:=hx;(obtain ⟨J,H,P,an,T,E⟩:=sA Q.out (by simp));replace P:u11=.slice (some ⟨J,0,none⟩) 2 H:=P;subst P;have z0:wc.cell? ⟨J,0,none⟩=some (.int .i64 Z):=E 0 _ rfl;have z1:wc.cell? ⟨J,1,none⟩=some (.int .i64 r1):=E 1 _ rfl;(have ao:J≠w.heap.size+1:=by omega);(have ab:w.heap.size+1≠J:=by omega);clear E;clear G;go_wp2_with fail;go_meet;case rel=>exact ⟨rfl,⟨k+1,0,r1,Z,Y⟩,U,aB (((((O.out.set_op _).set_imm _).set_nm _).set_rs2 _).set_rs1 _),aB (((((R.out.other A _ _).other A _ _).other A _ _).other A _ _).other A _ _),aB (((((N.out.setCell y _).setCell y _).setCell y _).setCell y _).setCell y _)⟩)
          | (have U:=aB (vw k rs Y (by omega))
             rw[D];(have G:rs.length=2:=by have:=ae.out;rw[D]at this;simpa[fP] using this);clear D;have hx:=wO G;obtain ⟨Z,r1,rfl⟩:=hx;(obtain ⟨J,H,P,an,T,E⟩:=sA Q.out (by simp));replace P:u11=.slice (some ⟨J,0,none⟩) 2 H:=P;subst P;have z0:wc.cell? ⟨J,0,none⟩=some (.int .i64 Z):=E 0 _ rfl;have z1:wc.cell? ⟨J,1,none⟩=some (.int .i64 r1):=E 1 _ rfl;(have ao:J≠w.heap.size+1:=by omega);(have ab:w.heap.size+1≠J:=by omega);clear E;clear G;go_wp2_with fail;go_meet;case rel=>exact ⟨rfl,⟨k+1,0,Z,r1,Y⟩,U,aB (((((O.out.set_op _).set_imm _).set_nm _).set_rs1 _).set_rs2 _),aB (((((R.out.other A _ _).other A _ _).other A _ _).other A _ _).other A _ _),aB (((((N.out.setCell y _).setCell y _).setCell y _).setCell y _).setCell y _)⟩)
          | (have U:=aB (sU k rs Y (by omega))
             rw[D];(have G:rs.length=1:=by have:=ae.out;rw[D]at this;simpa[fP] using this);clear D;have hx:=Bj G;obtain ⟨Z,rfl⟩:=hx;(obtain ⟨J,H,P,an,T,E⟩:=sA Q.out (by simp));replace P:u11=.slice (some ⟨J,0,none⟩) 1 H:=P;subst P;have z0:wc.cell? ⟨J,0,none⟩=some (.int .i64 Z):=E 0 _ rfl;(have ao:J≠w.heap.size+1:=by omega);(have ab:w.heap.size+1≠J:=by omega);clear E;clear G;go_wp2_with fail;go_meet;case rel=>exact ⟨rfl,⟨k+1,Z,0,0,Y⟩,U,aB ((((O.out.set_op _).set_imm _).set_nm _).set_rd _),aB ((((R.out.other A _ _).other A _ _).other A _ _).other A _ _),aB ((((N.out.setCell y _).setCell y _).setCell y _).setCell y _)⟩)
          | (have U:=aB (G0 k rs Y (by omega))
             rw[D];(have G:rs.length=0:=by have:=ae.out;rw[D]at this;simpa[fP] using this);clear D;obtain rfl:rs=[]:=List.eq_nil_of_length_eq_zero G;clear G;go_wp2_with fail;go_meet;case rel=>exact ⟨rfl,⟨k+1,0,0,0,Y⟩,U,aB (((O.out.set_op _).set_imm _).set_nm _),aB (((R.out.other A _ _).other A _ _).other A _ _),aB (((N.out.setCell y _).setCell y _).setCell y _)⟩)
        case rest=>
         obtain ⟨rfl,⟨xo,xd,x1,x2,xi⟩,U,V,aa,bm⟩:=hcut;clear R O q2 y0 y1 y2 y3 y4 y5 y6 y7 y8 y9 yf;obtain ⟨⟨y0,y1,y2,y3,y4⟩,⟨y5,y6,y7,y8,y9⟩,yf⟩:=id V.out;have ar:w.heap.size+1<wc.heap.size:=World.block_lt_of_cell? wc _ y0;go_wp2_with fail;refine zK (lV ⟨xo,xd,x1,x2,xi⟩ _) λ w5 am=>?_;have P1:=eU.below V.out am ar;(have P0:=eU.below aa.out am (by omega));have bn:=aB (bm.out.trans (am.mono bm.out.size));clear am y0 y1 y2 y3 y4 y5 y6 y7 y8 y9 yf aa V ar;obtain ⟨⟨a0,a1,a2,a3,a4⟩,⟨a5,a6,a7,a8,a9⟩,af⟩:=P1;obtain ⟨⟨c0,c1,c2,c3,c4⟩,⟨c5,c6,c7,c8,c9⟩,cf⟩:=P0;clear af;cases hr:right ⟨xo,xd,x1,x2,xi⟩
         .have HR:=aB hr
          clear hr;go_wp2;refine zp (v:=.tuple #[iv ⟨xo,xd,x1,x2,xi⟩ nm,.int .i64 5]) ?_ rfl ⟨GZ W.out U.out HR.out rfl,sQ bn.out _ _ _ _ _ _ _ _ _ _⟩;unfold iv;simp only[results,results164];simp[go_sem,c0,c1,c2,c3,c4,c5,c6,c7,c8,c9]
         have HR:=aB hr;clear hr;go_wp2;refine zp (v:=.tuple #[iv ⟨xo,xd,x1,x2,xi⟩ nm,.int .i64 0]) ?_ rfl ⟨GZ W.out U.out HR.out rfl,sQ bn.out _ _ _ _ _ _ _ _ _ _⟩;unfold iv;simp only[results,results164];simp[go_sem,c0,c1,c2,c3,c4,c5,c6,c7,c8,c9]
   (have df:(t.S.toList==(row k).name)=false:=by simpa using k2);clear k2;go_wp2_with fail;go_quiet (fail);go_wp2;go_roundw;(case rel=>exact ⟨k+1,by omega,by go_num,Gm aj.out (MR df),below_drewN (HB.out.alloc hz _) _⟩);case measure=>simp[intOf];omega
  have aw:Below (w.heap.size+2) ((w.alloc jQ).alloc jQ) wr:=(aU.alloc (by simp) _).trans (hB.mono (by omega))
  obtain ⟨aa,V⟩:=D6 aw;have N:=aB ((aJ.alloc (by simp) _).trans (aw.mono (show w.heap.size<=w.heap.size+2 by omega)))
  have W:=aB (nz (lX (named t) 64 (λ j hj=>aj.out j (by omega))) l tg)
  obtain ⟨⟨x0,x1,x2,x3,x4⟩,⟨x5,x6,x7,x8,x9⟩,xf⟩:=id aa.out;obtain ⟨⟨y0,y1,y2,y3,y4⟩,⟨y5,y6,y7,y8,y9⟩,yf⟩:=id V.out;have ef:¬(k:Int)<64:=by omega
  clear hB aw hC;go_wp2;refine zp (v:=.tuple #[iv ⟨0,0,0,0,0⟩ ⟨#[]⟩,.int .i64 4]) (by simp[results,results164,go_sem,x0,x1,x2,x3,x4,x5,x6,x7,x8,x9,iv]) rfl ⟨by rw[W.out],?_⟩
  exact sQ N.out _ _ _ _ _ _ _ _ _ _
def EP (t:aI) (l:List aI) (g o cap) (w) (v:l.length<=1999) (q:g<w.heap.size) (h:l.length+1<=cap) (j:∀k u,(t::l)[k]?=some u->w.cell? ⟨g,o+k*4,none⟩=some (.int .u8 u.kind)/\w.cell? ⟨g,o+k*4+1,none⟩=some (.string u.S)/\w.cell? ⟨g,o+k*4+2,none⟩=some (.int .i64 u.num)/\w.cell? ⟨g,o+k*4+3,none⟩=some (.bool u.blank)):
    Calls prog 164 #[.slice (some ⟨g,o,none⟩) (l.length+1) cap,.bool false] w λ e w'=>
     e=.returned (.tuple #[iv (plain t l false).1 (plain t l false).2.1,.int .i64 (plain t l false).2.2])/\Below w.heap.size w w':=
 FF false t l g o cap w v q h j
def xE (t:aI) (l:List aI) (g o cap) (w) (v:l.length<=1999) (q:g<w.heap.size) (h:l.length+1<=cap) (j:∀k u,(t::l)[k]?=some u->w.cell? ⟨g,o+k*4,none⟩=some (.int .u8 u.kind)/\w.cell? ⟨g,o+k*4+1,none⟩=some (.string u.S)/\w.cell? ⟨g,o+k*4+2,none⟩=some (.int .i64 u.num)/\w.cell? ⟨g,o+k*4+3,none⟩=some (.bool u.blank)):
    Calls prog 164 #[.slice (some ⟨g,o,none⟩) (l.length+1) cap,.bool true] w λ e w'=>
     e=.returned (.tuple #[iv (plain t l true).1 (plain t l true).2.1,.int .i64 (plain t l true).2.2])/\Below w.heap.size w w':=
 FF true t l g o cap w v q h j
