import Derived.Test.YtbmcofdodfcnnaaGreatDoorGRG
set_option linter.all false
set_option maxHeartbeats 0
set_option maxRecDepth 100000
namespace Go
open Proofs.Tryz RowKit
def Se (on a b op rd rs1 rs2 imm) (s) (sh) (w):
    aG prog 52 #[.agg (cM 5 on a b op rd rs1 rs2 imm s sh).toArray] w (.bool true):=by
 unfold aG;have A:=aB (aF.new w (cM 5 on a b op rd rs1 rs2 imm s sh) 74);unfold cM;go_in;go_wp2_with fail;refine zK (KX qm ⟨op,rd,rs1,rs2,imm⟩ _) λ I h=>?_;have y:=aB (aF.next A.out h);have q:=aB (aJ.trans (h.mono (by simp)))
 obtain ⟨H,_,j⟩:=y.out;have c4:=j 4 _ rfl;have C:=j 5 _ rfl;have D:=j 6 _ rfl;have F:=j 7 _ rfl;have G:=j 8 _ rfl;clear j h;go_wp2_with fail;refine zK (qu ⟨op,rd,rs1,rs2,imm⟩ _) λ J u=>?_;have v:=aB (q.out.trans (u.mono q.out.size));clear u c4 C D F G;rw[li];generalize bQ ⟨op,rd,rs1,rs2,imm⟩=E;go_wp2_with (go_at_call 92;refine zk (mM _ _) ?_);go_ret;exact ⟨rfl,v.out⟩
def Rz (on a b op rd rs1 rs2 imm) (s) (sh) (w):
    aG prog 52 #[.agg (cM 6 on a b op rd rs1 rs2 imm s sh).toArray] w (.bool true):=by
 unfold aG;have I:=aB (aF.new w (cM 6 on a b op rd rs1 rs2 imm s sh) 74);unfold cM;go_in;go_wp2_with fail;refine zK (KE a _) λ L j=>?_;have v:=aB (aF.next I.out j);have h:=aB (aJ.trans (j.mono (by simp)))
 have c2:=v.out.2.2 2 _ rfl;have M:=v.out.1;clear j;generalize y:cE a=D;have J:=aB y;clear y;obtain ⟨⟨H,F,C,E,G⟩,er⟩:=D;unfold aE.val;simp only;go_wp2_with fail;refine zK (xn a _) λ T q=>?_;have K:=aB ((aF.new L [.int .i64 H,.int .i64 F,.int .i64 C,.int .i64 E,.int .i64 G] 26).next q);have u:=aB ((h.out.alloc h.out.size (.cells #[.int .i64 H,.int .i64 F,.int .i64 C,.int .i64 E,.int .i64 G] 26)).trans (q.mono (by have:=h.out.size;simp;omega)))
 rw[vr,J.out];unfold aE.val;simp only;obtain ⟨hi,_,A⟩:=K.out;obtain ⟨N,O,P,Q,R⟩:=bF A;clear A q c2;go_wp2_with (go_at_call 92;refine zk (mM _ _) ?_);go_ret;exact ⟨rfl,u.out.alloc u.out.size _⟩
def N2 (on a b op rd rs1 rs2 imm) (s) (sh) (w) (J:aS w):
    aG prog 53 #[.agg (cM 7 on a b op rd rs1 rs2 imm s sh).toArray] w (.bool true):=by
 unfold aG;have E:=aB (aF.new w (cM 7 on a b op rd rs1 rs2 imm s sh) 74);have G:=aB (λ o=>J.alloc o)
 unfold cM;go_in;go_wp2_with fail;refine zK (JF s sh _ (G.out _)) λ K q=>?_;have j:=aB (aF.next E.out q);have h:=aB (aJ.trans (q.mono (by simp)))
 have I:=j.out.2.2 9 _ rfl;have y:=j.out.2.2 10 _ rfl;have M:=j.out.1;clear q;generalize A:kE s sh=D;have F:=aB A;clear A;obtain ⟨L,er,ln⟩:=D;simp only;go_wp2_with fail;refine zK (Tq s sh _) λ P u=>?_;have H:=aB ((aF.new K [.int .i64 er,.int .i64 ln] 39).next u);have v:=aB ((h.out.alloc h.out.size (.cells #[.int .i64 er,.int .i64 ln] 39)).trans (u.mono (by have:=h.out.size;simp;omega)))
 rw[Tg,F.out];simp only;obtain ⟨hi,_,C⟩:=H.out;obtain ⟨N,O⟩:=bE C;clear C u I y;go_wp2;go_ret;exact ⟨rfl,v.out.alloc v.out.size _⟩
def MS (on a b op rd rs1 rs2 imm) (s) (sh) (w) (A:aS w):
    aG prog 53 #[.agg (cM 8 on a b op rd rs1 rs2 imm s sh).toArray] w (.bool true):=by
 unfold aG;have E:=aB (aF.new w (cM 8 on a b op rd rs1 rs2 imm s sh) 74);have G:=aB (λ o=>A.alloc o)
 unfold cM;go_in;go_wp2_with fail;refine zK (Jj s _ (G.out _)) λ K j=>?_;have q:=aB (aF.next E.out j);have h:=aB (aJ.trans (j.mono (by simp)))
 have y:=aB (A.below h.out A.1);have H:=q.out.2.2 9 _ rfl;have J:=q.out.1;clear j;generalize C:lK s=D;have F:=aB C;clear C;obtain ⟨I,er⟩:=D;simp only;go_wp2_with fail;refine zK (Jl s _ y.out) λ L u=>?_;have v:=aB (h.out.trans (u.mono h.out.size));rw[RN,F.out];simp only;clear u H;go_wp2_with (go_at_call 92;refine zk (mM _ _) ?_);go_ret;exact ⟨rfl,v.out⟩
def US:(prog.info? 244).map (λ i=>(i.zero,i.size,i.bytes))=some (some (.agg #[.int .i64 0,.int .i64 0,.int .i64 0,.int .i64 0,.int .i64 0,.int .i64 0]),6,48):=by kernel_rfl
def nr (x:IT):List Value:=[.int .i64 x.1,.int .i64 x.2.op,.int .i64 x.2.rd,.int .i64 x.2.rs1,.int .i64 x.2.rs2,.int .i64 x.2.imm]
def Wf (xs:List IT) (w:World) (e:Ending) (w':World):Prop:=
 ∃ao n cp,e=.returned (.slice ao n cp)/\w'.ownsRow w.heap.size 244 6 (.slice ao n cp) xs.length (xs.flatMap nr)/\Below w.heap.size w w'
def Vn (l:List UInt8) (w:World) (lv av:Value) (wr:World):Prop:=
 ∃(k m:Nat) (xs:List IT),k<=l.length/\xs.length<=k/\av=.int .i64 k/\Hid (wr.ownsRow w.heap.size 244 6 lv xs.length (xs.flatMap nr))/\Below w.heap.size w wr/\l.length-k<=m/\Hid (iG l l.length 0=xs++iG l m k)
def OW (s) (w) (hs:s.size<=2000000):
    Calls prog 175 #[.string s] w λ e w'=>Wf (iG s.data.toList s.size 0) w e w':=by
 obtain ⟨i0,hi,ab,ac,ae⟩:=info_parts US;have y:s.data.toList.length=s.size:=(Lib.size_eq s).symm;have T:=aB (λ (k:Nat) (Z:k<=s.size) (w':World)=>GD s k w' hs Z)
 have HR:Hid (iG s.data.toList s.size 0=iG s.data.toList s.data.toList.length 0):=aB (by rw[y])
 generalize iG s.data.toList s.size 0=R at *;go_in;go_wp2_with fail;go_loopw [3,4] (λ lv X wr=>Vn s.data.toList w lv X wr) (λ _ X _=>s.size-(intOf X).toNat)
 case atStart=>exact ⟨0,s.data.toList.length,[],by omega,by simp,rfl,aB (World.ownsRow_nil _ _ _ _),aU,by omega,aB rfl⟩
 case round=>
  obtain ⟨k,m,L,Z,a1,rfl,M,Y,hm,V⟩:=hrel;have af:w.heap.size<=wr.heap.size:=Y.size;have O:=aB Y;clear Y;rw[y]at Z hm;by_cases aw:k<s.size
  .obtain ⟨K,rfl⟩:∃K,m=K+1:=⟨m-1,by omega⟩
   (have HF:Hid (iG s.data.toList (K+1) k=if (bV s.data.toList k).2=0 then [] else (k,(bV s.data.toList k).1)::iG s.data.toList K (k+(bV s.data.toList k).2.toNat)):=aB (by rw[iG,zt (by omega)]));have hn:=tp s.data.toList k;rw[y]at hn;(have al:(k:Int)<s.size:=by omega);(have HI:=aB (λ w'=>T.out k (by omega) w'));generalize bV s.data.toList k=IR at *;obtain ⟨⟨J,id,G,H,I⟩,C⟩:=IR;unfold aE.val at HI;simp only at *;go_wp2_with fail;refine zK (HI.out _) λ N E=>?_;have h:=aB (lZ M.out E);have D:Hid (Below w.heap.size w N):=aB (O.out.trans (E.mono af));have A:w.heap.size<=N.heap.size:=D.out.size;clear E M O;by_cases F:C=0
   .subst F
    (have Q:R=L:=by rw[HR.out,V.out,HF.out,zt rfl,List.append_nil]);subst Q;obtain ⟨ao,cp,rfl⟩:=lm h.out;go_wp2;go_ret;exact ⟨_,_,_,rfl,uq (h.out.alloc _) zn,D.out.alloc A _⟩
   (have ay:(C==0)=false:=by simpa using F);obtain ⟨ao,cp,rfl⟩:=lm h.out;(go_wp2_with (at_builtin;refine wpList_append_own _ rfl _ _ 241 rfl w.heap.size 244 i0 _ 6 48 underlying241 hi ab ac ae rfl (by decide) _ _ _ rfl ((h.out.alloc _).alloc _) ⟨N.heap.size+1,0,none⟩ 1 1 (nr ((k,(⟨J,id,G,H,I⟩:aE)):Nat×aE)) rfl rfl ?c1 ?c2 ?c3 ?c4 ?c5 ?_));(case c1=>have:=nD (N.alloc (.cells #[.int .i64 J,.int .i64 id,.int .i64 G,.int .i64 H,.int .i64 I] 26)) (nr ((k,(⟨J,id,G,H,I⟩:aE)):Nat×aE)) 244;rw[za]at this;exact this);(case c2=>intro u hu;simp[nr]at hu;rcases hu with rfl|rfl|rfl|rfl|rfl|rfl<;>rfl);(case c3=>unfold maxLen;omega);(case c4=>omega);(case c5=>simp;omega);intro v' w5 v q _;(have U:Hid (w5.ownsRow w.heap.size 244 6 v' (L++[((k,(⟨J,id,G,H,I⟩:aE)):Nat×aE)]).length ((L++[((k,(⟨J,id,G,H,I⟩:aE)):Nat×aE)]).flatMap nr)):=aB (by simpa using v));(have P:Hid (Below w.heap.size w w5):=aB (((D.out.alloc A _).alloc (by simp;omega) _).grown q (by simp;omega) (λ j hj=>by have:=(h.out.lt j hj).1;omega)));(have az:0<=C/\C<=4/\(k:Int)+C<=s.size/\2<=C:=by omega);(have W:Hid (iG s.data.toList s.data.toList.length 0=(L++[((k,(⟨J,id,G,H,I⟩:aE)):Nat×aE)])++iG s.data.toList K (k+C.toNat)):=aB (by rw[V.out,HF.out,aC F];simp));clear v q h hn;go_wp2;go_roundw;(case rel=>exact ⟨k+C.toNat,K,L++[((k,(⟨J,id,G,H,I⟩:aE)):Nat×aE)],by rw[y];omega,by simp;omega,by congr 1;omega,U,P.out,by rw[y];omega,W⟩);case measure=>simp[intOf];omega
  have aa:k=s.size:=by omega
  subst aa
  have Q:R=L:=by
   rw[HR.out,V.out]
   cases m with
   | zero=>rw[iG,List.append_nil]
   | succ m=>rw[iG,aC (by omega),List.append_nil]
  subst Q;obtain ⟨ao,cp,rfl⟩:=lm M.out;go_wp2;go_ret;exact ⟨_,_,_,rfl,M.out,O.out⟩
