import Derived.Lay
import Derived.Deep.DeepHandedRow
import Derived.Test.YtbmcofdodfcnnaaGreatDoorGZU
import Derived.Test.YtbmcofdodfcnnaaGreatDoorCards
import Derived.Test.YtbmcofdodfcnnaaGreatDoorTie
set_option linter.all false
set_option maxHeartbeats 0
set_option maxRecDepth 100000
namespace Go.Proofs.YtbmcofdodfcnnaaGreatDoor
open Go.Proofs.Tryz Go.ChangeShapes Go.WideShapes Go.ChangeAt Go.RowKit
variable {fuel i len : Nat} {cs : List Value}
def FA:prog.cellsOf 74=11:=by kernel_rfl
section
variable {H : Type} {bB : TypeId × Value → H} {w : World} {base : Nat} {sp : Nat → Bool} {hd : Bool}
def Wa {x:DataW H×List MemPlace} (h:DataW.trod bB prog w base sp hd fuel 74 cs=some x):∃o:cG,cs=o.cells:=by
 obtain ⟨q,n,_,_,Q,G,E⟩:=DataW.trod_struct underlying74 h;rw[FA]at Q;have I:q.length=7:=G;have F:∀i,i<7->(q[i]?).isSome=true:=λ i hi=>by rw[zg (by omega)];rfl
 obtain ⟨c0,r0,rfl,l0⟩:=mj Q;obtain ⟨c1,r1,rfl,l1⟩:=mj l0;obtain ⟨c2,r2,rfl,l2⟩:=mj l1;obtain ⟨u,r3,rfl,l3⟩:=mj l2;obtain ⟨c4,r4,rfl,l4⟩:=mj l3;obtain ⟨v,r5,rfl,l5⟩:=mj l4;obtain ⟨y,r6,rfl,l6⟩:=mj l5;obtain ⟨A,r7,rfl,l7⟩:=mj l6;obtain ⟨C,r8,rfl,l8⟩:=mj l7;obtain ⟨D,r9,rfl,l9⟩:=mj l8;obtain ⟨j,am,rfl,l10⟩:=mj l9;obtain rfl:=List.length_eq_zero_iff.1 l10;have J:DataW.trod bB prog w base sp hd n 3 (([c0,c1,c2,u,c4,v,y,A,C,D,j].drop 0).take (prog.cellsOf 3))=q[0]?:=E 0 _ rfl;have K:DataW.trod bB prog w base sp hd n 3 (([c0,c1,c2,u,c4,v,y,A,C,D,j].drop 1).take (prog.cellsOf 3))=q[1]?:=E 1 _ rfl;have L:DataW.trod bB prog w base sp hd n 3 (([c0,c1,c2,u,c4,v,y,A,C,D,j].drop 2).take (prog.cellsOf 3))=q[2]?:=E 2 _ rfl;have M:DataW.trod bB prog w base sp hd n 3 (([c0,c1,c2,u,c4,v,y,A,C,D,j].drop 3).take (prog.cellsOf 3))=q[3]?:=E 3 _ rfl;have N:DataW.trod bB prog w base sp hd n 26 (([c0,c1,c2,u,c4,v,y,A,C,D,j].drop 4).take (prog.cellsOf 26))=q[4]?:=E 4 _ rfl;have O:DataW.trod bB prog w base sp hd n 9 (([c0,c1,c2,u,c4,v,y,A,C,D,j].drop 9).take (prog.cellsOf 9))=q[5]?:=E 5 _ rfl;have P:DataW.trod bB prog w base sp hd n 4 (([c0,c1,c2,u,c4,v,y,A,C,D,j].drop 10).take (prog.cellsOf 4))=q[6]?:=E 6 _ rfl;rw[Ap]at J K L M;rw[OA]at N;rw[Ex]at O;rw[MV]at P;obtain ⟨X,rfl⟩:=nN J (F 0 (by omega))
 obtain ⟨Y,rfl⟩:=nN K (F 1 (by omega))
 obtain ⟨Z,rfl⟩:=nN L (F 2 (by omega))
 obtain ⟨k3,rfl⟩:=nN M (F 3 (by omega))
 obtain ⟨R,T,U,V,W,rfl,rfl,rfl,rfl,rfl⟩:=UH N (F 4 (by omega))
 obtain ⟨s,rfl⟩:=Us O (F 5 (by omega))
 obtain ⟨b,rfl⟩:=RO P (F 6 (by omega))
 exact ⟨⟨X,Y,Z,k3,R,T,U,V,W,s,b⟩,rfl⟩
end
def Nu {w:World} {base n:Nat} {a:Addr} (h:w.cells? base a n=some cs) (hi:i<n):w.cell? (a.add i)=cs[i]?:=by
 unfold World.cells? at h
 split at h
 .obtain ⟨b,j,q⟩:=Lib.mapM_at h i i (by simp[hi])
  rw[j];exact q
 cases h
def yE {H:Type} {d:DataW H}:∀{l:List (DataW H)},d∈l->Rows.uptoBulk d<=Rows.uptoBulkAll l
 | x::r,h=>by
  rw[Rows.uptoBulkAll];rcases List.mem_cons.1 h with rfl|h
  .omega
  have:=yE h;omega
section
variable {H : Type} {bB : TypeId × Value → H} {w : World} {base : Nat} {sp : Nat → Bool} {hd : Bool}
def A5 {k:Int} {x:Option (DataW H×List MemPlace)} (h:DataW.trod bB prog w base sp hd fuel 3 [.int .i64 k]=x) (hx:x.isSome=true):-9223372036854775808<=k/\k<9223372036854775808:=by
 obtain ⟨y,rfl⟩:=Option.isSome_iff_exists.1 hx;obtain ⟨m,e,_,j⟩:=DataW.trod_int underlying3 h;obtain rfl:k=m:=by simpa using e
 simp only[Lit.wf,Bool.and_eq_true,decide_eq_true_eq]at j;rw[show IntKind.i64.min=-9223372036854775808 from by decide,show IntKind.i64.max=9223372036854775807 from by decide]at j
 omega
def Xo {o:cG} {x:DataW H×List MemPlace} (h:DataW.trod bB prog w base sp hd fuel 74 o.cells=some x) (hx:Rows.uptoBulk x.1<=1048576):o.ok:=by
 obtain ⟨j,n,_,rfl,M,q,u⟩:=DataW.trod_struct underlying74 h;have C:j.length=7:=q;have v:∀i,i<7->(j[i]?).isSome=true:=λ i hi=>by rw[zg (by omega)];rfl
 have E:DataW.trod bB prog w base sp hd n 3 ((o.cells.drop 1).take (prog.cellsOf 3))=j[1]?:=u 1 _ rfl;have F:DataW.trod bB prog w base sp hd n 3 ((o.cells.drop 2).take (prog.cellsOf 3))=j[2]?:=u 2 _ rfl;have G:DataW.trod bB prog w base sp hd n 3 ((o.cells.drop 3).take (prog.cellsOf 3))=j[3]?:=u 3 _ rfl;have A:DataW.trod bB prog w base sp hd n 9 ((o.cells.drop 9).take (prog.cellsOf 9))=j[5]?:=u 5 _ rfl;rw[Ap]at E F G;rw[Ex]at A;obtain ⟨y,hy⟩:=Option.isSome_iff_exists.1 (v 5 (by omega))
 rw[hy]at A;obtain ⟨s,e,D,_⟩:=DataW.trod_string underlying9 A
 have K:o.s=s:=by
  have J:[Value.string o.s]=[Value.string s]:=e;simpa using J
 have I:=yE (List.mem_map_of_mem (f:=λ z:DataW H×List MemPlace=>z.1) (List.mem_of_getElem? hy))
 rw[D]at I;simp only[Rows.uptoBulk]at I hx;have L:s.size=s.data.toList.length:=Lib.size_eq s;refine ⟨by rw[K,L];omega,A5 E (v 1 (by omega)),A5 F (v 2 (by omega)),A5 G (v 3 (by omega))⟩
end
def Lk {Q:cG->Prop} {w:World} {a:Addr} (h:∀i,i<len->∃o:cG,w.cells? 0 (a.add (i*11)) 11=some o.cells/\Q o):
    ∃q:List cG,q.length=len/\(∀j u,(q.flatMap cG.cells)[j]?=some u->w.cell? (a.add j)=some u)/\∀o∈q,Q o:=by
 obtain ⟨f,D⟩:=@Go.Deep.choose_lt cG ⟨⟨0,0,0,0,0,0,0,0,0,⟨#[]⟩,false⟩⟩ _ _ h;refine ⟨(List.range len).map f,by simp,λ j u y=>?_,λ o G=>?_⟩
 .have F:j<len*11:=by
   rcases Nat.lt_or_ge j (len*11) with h|h
   .exact h
   rw[List.getElem?_eq_none (by rw[yi];simpa using h)]at y;cases y
  have A:j/11<len:=by omega
  have e:j=11*(j/11)+j%11:=by omega
  have v:=jF cG.cells 11 (λ _=>rfl) ((List.range len).map f) (j/11) (j%11) (by omega) (by simpa using A)
  rw[<-e,y,List.getElem?_map,List.getElem?_range A]at v;simp only[zm,zd]at v;have C:=Nu (D (j/11) A).1 (i:=j%11) (by omega)
  rw[Go.Deep.add_add,<-v]at C;have E:j/11*11+j%11=j:=by omega
  rwa[E]at C
 obtain ⟨i,hi,rfl⟩:=List.mem_map.1 G;exact (D i (List.mem_range.1 hi)).2
def QI {H:Type}:∀d:DataW H,1<=Rows.uptoBulk d:=λ d=>by
 cases d with
 | lit l=>cases l<;>simp[Rows.uptoBulk]
 | _=>simp[Rows.uptoBulk]
def DY {H:Type}:∀l:List (DataW H),l.length<=Rows.uptoBulkAll l
 | []=>Nat.zero_le _
 | d::r=>by
  rw[Rows.uptoBulkAll,List.length_cons];have:=DY r;have:=QI d;omega
def Vg {H:Type} {bB:TypeId×Value->H} {W:World} {x:DataW H×List MemPlace} {J:Option Addr} {cap:Nat} (F:aS W) (V:DataW.trod bB prog W 0 (λ _=>true) true fuel 22 [.slice J len cap]=some x) (v:Rows.uptoBulk x.1<=1048576):
    aG prog 5 #[.slice J len cap] W (.bool true):=by
 unfold aG;rcases Go.Deep.open_slice underlying22 V with ⟨q,_⟩|⟨a,O,K,m,n,D,X,q,_,Y,_,N,hx,A⟩
 .simp at q
  obtain ⟨rfl,rfl,rfl⟩:=q;exact AB _ [] W F (by decide) (.inr ⟨none,0,rfl,rfl⟩) (λ _ h=>by cases h)
 simp at q;obtain ⟨rfl,rfl,rfl⟩:=q;simp only[if_true]at N;subst N;by_cases R:len=0
 .subst R
  exact AB _ [] W F (by decide) (.inr ⟨some a,m,rfl,rfl⟩) (λ _ h=>by cases h)
 have hd:x.1=.slice ((List.range len).map D) ((List.range (m-len)).map λ j=>D (len+j)):=by rw[hx]
 have y:len<=1048576:=by
  have:=DY ((List.range len).map D);rw[hd]at v;simp only[Rows.uptoBulk]at v;rw[List.length_map,List.length_range]at this;omega
 have U:∀i,i<len->Rows.uptoBulk (D i)<=1048576:=λ i hi=>by
  have:=yE (List.mem_map_of_mem (f:=D) (List.mem_range.2 hi));rw[hd]at v;simp only[Rows.uptoBulk]at v;omega
 rw[FA]at A
 obtain ⟨E,C,M,I⟩:=Lk (Q:=cG.ok) (w:=W) (a:=a) (len:=len) (λ i hi=>by
  obtain ⟨P,T,L⟩:=A i (by omega)
  obtain ⟨o,rfl⟩:=Wa L;exact ⟨o,T,Xo L (U i hi)⟩)
 subst C
 have G:a.block<W.heap.size:=by
  obtain ⟨u,v⟩:∃u,(E.flatMap cG.cells)[0]?=some u:=⟨_,zg (by rw[yi];omega)⟩
  have:=World.block_lt_of_cell? W _ (M 0 u v);rwa[CX]at this
 exact AB _ E W F y (.inl ⟨a,m,rfl,by omega,M,G⟩) I
def Ko (H:Type) (bB:TypeId×Value->H) (W) (base) (args) (A C:List (DataW H)) (u:List MemPlace) (w:∀(j:Nat) t v,f5.params[j]?=some t->args[j]?=some v->Value.okWide prog W .any base t v) (M:DataW.Whole bB prog f5.params.toList Rows.allSpec.vars false W args.toList A C u) (G:(DataW.weightsEach prog (f5.params.toList++Rows.allSpec.plain.varTypes prog) (A++C)).all (·<=reachBytes)=true) (U:Rows.uptoSmall H (A++C)=true) (P:laidMetH prog Rows.allUptoRow.laid W) (Q:W.ShapedOpen prog):
    Calls prog 5 args W λ e J=>∃v,e=.returned v/\Rows.allSpec.post bB prog f5 false true false false W args v J:=by
 have O:=Ue P Q;have y:=M;obtain ⟨p,q,hA0,R,rfl,_,_⟩:=M;have L:DataW.TrodAll bB prog W 0 (λ _=>true) true f5.params.toList args.toList A p:=hA0
 rw[params5]at L w G;obtain ⟨V,d0,rfl,rfl,K⟩:=trodAll_one L;obtain ⟨rfl,rfl⟩:=trodVars_none R;obtain ⟨N,len,cap,rfl⟩:=okWide_slice underlying22 (w 0 22 V rfl rfl);have D:=K;obtain ⟨fuel,T⟩:=K;clear hA0;simp only[List.append_nil]at y;have F:∀x∈p,x.block<W.heap.size:=λ x hx=>by simpa using y.lt x hx
 have E:DataW.trod bB prog W 0 (λ _=>true) true fuel 22 [.slice N len cap]=some (d0,p):=T
 have I:Rows.uptoBulk d0<=1048576:=by
  have:=of_decide_eq_true U;simp only[List.append_nil,Rows.uptoBulkAll]at this;omega
 refine (Vg O E I).mono λ e J ⟨he,hB⟩=>?_
 subst he;refine ⟨_,rfl,_,_,_,[],p,[],y,?_,?_,rfl,hB.frame _,λ h=>by cases h⟩
 .exact trodAll_mk1 (shut_bool underlying4 _)
 exact trodAll_mk1 (Below.trod RW (by kernel_rfl) (of_decide_eq_true (by kernel_rfl)) D hB F)
def Mf (os:Os) {H:Type} (bB:TypeId×Value->H):∃places,DataW.whole bB prog ((World.laidAll prog os Rows.allUptoRow.laid).forCall (λ _ _=>0) ⟨#[],#[.slice none 0 0],[]⟩).memory f5.params.toList Rows.allSpec.vars false #[Value.slice none 0 0].toList 8=some ([.nil],[],places):=
 ⟨[],by kernel_rfl⟩
def KJ (os:Os) (H:Type) (bB:TypeId×Value->H):
    ∃(w:World) (tape:Tape) (i:Input),w.os=os/\(w.forCall tape i).Shaped Tryz.checked.prog/\i.vars=[]/\Input.okWide Tryz.checked.prog (w.forCall tape i) .any w.heap.size 5 i/\
     (Rows.OpenSpec.upto Rows.allSpec).preRow bB Tryz.checked.prog f5 Rows.allUptoRow.domain false Rows.allUptoRow.laid (w.forCall tape i).memory i.args/\({}:Assume).holds Tryz.checked.prog (lone (Frame.enter Tryz.checked.prog 5 i.args .normal) [] (w.forCall tape i)):=by
 obtain ⟨places,hx⟩:=Mf os bB;have h:Input.okWideB Tryz.checked.prog ((World.laidAll prog os Rows.allUptoRow.laid).forCall (λ _ _=>0) ⟨#[],#[.slice none 0 0],[]⟩) 5 ⟨#[],#[.slice none 0 0],[]⟩=true:=by kernel_rfl
 refine ⟨World.laidAll prog os Rows.allUptoRow.laid,λ _ _=>0,⟨#[],#[.slice none 0 0],[]⟩,World.laidAll_os _ _ _,World.shaped_of_ZipB (by kernel_rfl) (by kernel_rfl),(Input.okWide_of_okWideB (base:=0) h).1,(Input.okWide_of_okWideB h).2,?_,?_⟩
 .exact OpenSpec.preRow_of_cond 8 hx (by kernel_rfl) (λ k j=>by cases j;rfl) (by kernel_rfl)
   (by rw[MakeChecks.laidMetH_plain _ _ _ (by kernel_rfl)];exact laidMet_laidAll _ (by kernel_rfl) (by kernel_rfl))
 simp only[Assume.holds];exact ⟨by simp,by simp,by simp,by simp,by simp⟩
def Li (os:Os) (h:os.Started) (H:Type) (bB:TypeId×Value->H) (F:Stop.Interp):
    ReturnsInHanded {} Tryz.checked os 5 .any ((Rows.OpenSpec.upto Rows.allSpec).preRow bB prog f5 Rows.allUptoRow.domain false Rows.allUptoRow.laid) (((Rows.OpenSpec.upto Rows.allSpec).at F).post bB prog f5 false true false false):=by
 refine returnsInHanded_of_row (C:=Tryz.checked) (s:=Rows.OpenSpec.upto Rows.allSpec) own h (by kernel_rfl) func5 (KJ os H bB) ?_
 intro W base args v w j q D _ E u y A _;exact Ko H bB W base args v w j q D u (E _ rfl) y A
def Ny:Tryz.pinned.checked.prog.funcNamed Rows.allUptoRow.func=some 5:=by kernel_rfl
def Lr:joinedFacts Tryz.pinned.checked.prog 5 f5 (Rows.OpenSpec.upto Rows.allSpec).bare Rows.allUptoRow=true:=by
 unfold joinedFacts
 repeat' (with_reducible refine Bool.and_eq_true_iff.2 ⟨?_,?_⟩)
 all_goals (as_aux_lemma=>kernel_rfl)
def Q5:f5.isInstance Tryz.pinned.checked.prog Rows.allUptoRow.origin Rows.allUptoRow.targs:=of_decide_eq_true (by kernel_rfl)
def PC:f5.isWrapper Tryz.pinned.checked.prog Rows.allUptoRow.wrapper Rows.allUptoRow.mainSum:=by
 unfold Func.isWrapper;first|(rw[zt (by decide +kernel)];kernel_rfl)|(rw[aC (by decide +kernel)];exact ⟨rfl,rfl⟩)
def Oj:Rows.AllUptoSaid:=
 OpenClaim.holds_of_cond 5 f5 rfl rfl rfl rfl rfl rfl rfl ⟨rfl,rfl,rfl,rfl,rfl⟩ rfl rfl rfl rfl rfl Ny func5 Lr Q5 PC
  (λ os h H bB _ F=>by rw[OpenClaim.pre_eq_preRow];exact Li os h H bB F)
def N5 (f:FuncId) (h:Func) (v:Tryz.pinned.checked.prog.funcNamed "pinion/pinionlaw.All"=some f) (q:Tryz.pinned.checked.prog.funcs[f]?=some h):
    true=Tryz.pinned.checked.prog.looks []/\∀(j:Nat) t,h.params[j]?=some t->Tryz.pinned.checked.prog.wantsStandIn t=false:=by
 obtain rfl:f=5:=Option.some.inj ((show prog.funcNamed "pinion/pinionlaw.All"=some 5 by kernel_rfl).symm.trans v) |>.symm
 obtain rfl:h=f5:=(Option.some.inj (func5.symm.trans q)).symm;refine ⟨by kernel_rfl,λ j t u=>?_⟩
 rw[params5]at u;obtain rfl:t=22:=by simpa using Array.mem_of_getElem? u
 exact (show prog.wantsStandIn 22=false by kernel_rfl)
theorem all_card:Rows.AllUptoCardSaid:=
 Claim7.holds_tied_plain_at .later [] _ _ _ _ Oj (λ _ h=>by cases h) (by kernel_rfl) (λ _ h=>by cases h) allUpto_row_tie rfl ⟨rfl,rfl⟩ (by kernel_rfl) rfl N5 (by kernel_rfl)
