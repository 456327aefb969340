import Derived.MakeChecks
import Derived.ProofKit
import Derived.OpenShut
import Derived.Deep.Slices
import Derived.Lib.LaidTab
import Derived.Shelf.Vars
import Derived.SizedLaws
import Derived.WalkKit
import Derived.Lay
import Derived.Deep.DeepHandedRow
import Derived.Test.YtbmcofdodfcnnaaGreatDoorGV23
import Derived.Test.YtbmcofdodfcnnaaGreatDoorGVF
import Derived.Test.YtbmcofdodfcnnaaGreatDoorRows
import Derived.Test.YtbmcofdodfcnnaaGreatDoorV30
import Derived.Test.YtbmcofdodfcnnaaGreatDoorCards
import Derived.Test.YtbmcofdodfcnnaaGreatDoorTie
set_option linter.all false
set_option maxHeartbeats 400000000
set_option maxRecDepth 100000
namespace Go.Proofs.YtbmcofdodfcnnaaGreatDoor
open Pn
open Go.Proofs.Tryz
open Go.ChangeShapes Go.WideShapes Go.ChangeAt Go.RowKit
theorem b7h:prog.cellsOf 74=11:=by kernel_rfl
theorem c4v:prog.bytesOf 74=96:=by kernel_rfl
section
variable {H : Type} {enc : TypeId × Value → H} {w : World} {base : Nat} {sp : Nat → Bool} {hd : Bool}
theorem c9c {fuel:Nat} {cs:List Value} {x:DataW H×List MemPlace} (h:DataW.trod enc prog w base sp hd fuel 74 cs=some x):∃o:OpD,cs=o.cells:=by
 obtain ⟨xs,n,_,_,hl,hlen,hf⟩:=DataW.trod_struct underlying74 h;rw[b7h]at hl;have hlen7:xs.length=7:=hlen;have hs:∀i,i<7->(xs[i]?).isSome=true:=fun i hi=>by rw[List.getElem?_eq_getElem (by omega)];rfl
 obtain ⟨c0,r0,rfl,l0⟩:=a4y hl;obtain ⟨c1,r1,rfl,l1⟩:=a4y l0;obtain ⟨c2,r2,rfl,l2⟩:=a4y l1;obtain ⟨c3,r3,rfl,l3⟩:=a4y l2;obtain ⟨c4,r4,rfl,l4⟩:=a4y l3;obtain ⟨c5,r5,rfl,l5⟩:=a4y l4;obtain ⟨c6,r6,rfl,l6⟩:=a4y l5;obtain ⟨c7,r7,rfl,l7⟩:=a4y l6;obtain ⟨c8,r8,rfl,l8⟩:=a4y l7;obtain ⟨c9,r9,rfl,l9⟩:=a4y l8;obtain ⟨c10,r10,rfl,l10⟩:=a4y l9;obtain rfl:=List.length_eq_zero_iff.1 l10;have h0:DataW.trod enc prog w base sp hd n 3 (([c0,c1,c2,c3,c4,c5,c6,c7,c8,c9,c10].drop 0).take (prog.cellsOf 3))=xs[0]?:=hf 0 _ rfl;have h1:DataW.trod enc prog w base sp hd n 3 (([c0,c1,c2,c3,c4,c5,c6,c7,c8,c9,c10].drop 1).take (prog.cellsOf 3))=xs[1]?:=hf 1 _ rfl;have h2:DataW.trod enc prog w base sp hd n 3 (([c0,c1,c2,c3,c4,c5,c6,c7,c8,c9,c10].drop 2).take (prog.cellsOf 3))=xs[2]?:=hf 2 _ rfl;have h3:DataW.trod enc prog w base sp hd n 3 (([c0,c1,c2,c3,c4,c5,c6,c7,c8,c9,c10].drop 3).take (prog.cellsOf 3))=xs[3]?:=hf 3 _ rfl;have h4:DataW.trod enc prog w base sp hd n 26 (([c0,c1,c2,c3,c4,c5,c6,c7,c8,c9,c10].drop 4).take (prog.cellsOf 26))=xs[4]?:=hf 4 _ rfl;have h5:DataW.trod enc prog w base sp hd n 9 (([c0,c1,c2,c3,c4,c5,c6,c7,c8,c9,c10].drop 9).take (prog.cellsOf 9))=xs[5]?:=hf 5 _ rfl;have h6:DataW.trod enc prog w base sp hd n 4 (([c0,c1,c2,c3,c4,c5,c6,c7,c8,c9,c10].drop 10).take (prog.cellsOf 4))=xs[6]?:=hf 6 _ rfl;rw[b7O]at h0 h1 h2 h3;rw[c1B]at h4;rw[b39]at h5;rw[b9m]at h6;obtain ⟨k0,rfl⟩:=a55 h0 (hs 0 (by omega))
 obtain ⟨k1,rfl⟩:=a55 h1 (hs 1 (by omega))
 obtain ⟨k2,rfl⟩:=a55 h2 (hs 2 (by omega))
 obtain ⟨k3,rfl⟩:=a55 h3 (hs 3 (by omega))
 obtain ⟨i0,i1,i2,i3,i4,rfl,rfl,rfl,rfl,rfl⟩:=c6c h4 (hs 4 (by omega))
 obtain ⟨s,rfl⟩:=c6X h5 (hs 5 (by omega))
 obtain ⟨b,rfl⟩:=c4z h6 (hs 6 (by omega))
 exact ⟨⟨k0,k1,k2,k3,i0,i1,i2,i3,i4,s,b⟩,rfl⟩
end
theorem b8Q {w:World} {base n:Nat} {a:Addr} {cs:List Value} (h:w.cells? base a n=some cs) {i:Nat} (hi:i<n):w.cell? (a.add i)=cs[i]?:=by
 unfold World.cells? at h
 split at h
 ·obtain ⟨b,e1,e2⟩:=Lib.mapM_at h i i (by simp[hi])
  rw[e1];exact e2
 ·cases h
open Go.ChangeShapes Go.WideShapes Go.ChangeAt Go.RowKit
theorem a9Q {H:Type} {d:DataW H}:∀{l:List (DataW H)},d∈l->Rows.uptoBulk d<=Rows.uptoBulkAll l
 | x::r,h=>by
  rw[Rows.uptoBulkAll];rcases List.mem_cons.1 h with rfl|h
  ·omega
  ·have:=a9Q h
   omega
section
variable {H : Type} {enc : TypeId × Value → H} {w : World} {base : Nat} {sp : Nat → Bool} {hd : Bool}
theorem b2K {fuel:Nat} {k:Int} {x:Option (DataW H×List MemPlace)} (h:DataW.trod enc prog w base sp hd fuel 3 [.int .i64 k]=x) (hx:x.isSome=true):-9223372036854775808<=k/\k<9223372036854775808:=by
 obtain ⟨y,rfl⟩:=Option.isSome_iff_exists.1 hx;obtain ⟨m,e,_,hw⟩:=DataW.trod_int underlying3 h;obtain rfl:k=m:=by simpa using e
 simp only[Lit.wf,Bool.and_eq_true,decide_eq_true_eq]at hw;rw[show IntKind.i64.min=-9223372036854775808 from by decide,show IntKind.i64.max=9223372036854775807 from by decide]at hw
 omega
theorem c8V {fuel:Nat} {o:OpD} {x:DataW H×List MemPlace} (h:DataW.trod enc prog w base sp hd fuel 74 o.cells=some x) (hx:Rows.uptoBulk x.1<=1048576):o.ok:=by
 obtain ⟨xs,n,_,rfl,hl,hlen,hf⟩:=DataW.trod_struct underlying74 h;have hlen7:xs.length=7:=hlen;have hs:∀i,i<7->(xs[i]?).isSome=true:=fun i hi=>by rw[List.getElem?_eq_getElem (by omega)];rfl
 have h1:DataW.trod enc prog w base sp hd n 3 ((o.cells.drop 1).take (prog.cellsOf 3))=xs[1]?:=hf 1 _ rfl;have h2:DataW.trod enc prog w base sp hd n 3 ((o.cells.drop 2).take (prog.cellsOf 3))=xs[2]?:=hf 2 _ rfl;have h3:DataW.trod enc prog w base sp hd n 3 ((o.cells.drop 3).take (prog.cellsOf 3))=xs[3]?:=hf 3 _ rfl;have h5:DataW.trod enc prog w base sp hd n 9 ((o.cells.drop 9).take (prog.cellsOf 9))=xs[5]?:=hf 5 _ rfl;rw[b7O]at h1 h2 h3;rw[b39]at h5;obtain ⟨y,hy⟩:=Option.isSome_iff_exists.1 (hs 5 (by omega))
 rw[hy]at h5;obtain ⟨s,e,hye,_⟩:=DataW.trod_string underlying9 h5
 have es:o.s=s:=by
  have e2:[Value.string o.s]=[Value.string s]:=e;simpa using e2
 have hm:=a9Q (List.mem_map_of_mem (f:=fun z:DataW H×List MemPlace=>z.1) (List.mem_of_getElem? hy))
 rw[hye]at hm;simp only[Rows.uptoBulk]at hm hx;have hz:s.size=s.data.toList.length:=Lib.size_eq s;refine ⟨by rw[es,hz];omega,b2K h1 (hs 1 (by omega)),b2K h2 (hs 2 (by omega)),b2K h3 (hs 3 (by omega))⟩
end
theorem b51 {Q:OpD->Prop} {w:World} {a:Addr} {len:Nat} (h:∀i,i<len->∃o:OpD,w.cells? 0 (a.add (i*11)) 11=some o.cells/\Q o):
    ∃ops:List OpD,ops.length=len/\(∀j u,(ops.flatMap OpD.cells)[j]?=some u->w.cell? (a.add j)=some u)/\∀o∈ops,Q o:=by
 obtain ⟨f,hf⟩:=@Go.Deep.choose_lt OpD ⟨⟨0,0,0,0,0,0,0,0,0,⟨#[]⟩,false⟩⟩ _ _ h;refine ⟨(List.range len).map f,by simp,fun j u hj=>?_,fun o ho=>?_⟩
 ·have hj2:j<len*11:=by
   rcases Nat.lt_or_ge j (len*11) with h|h
   ·exact h
   ·rw[List.getElem?_eq_none (by rw[a8y];simpa using h)]at hj;cases hj
  have hk:j/11<len:=by omega
  have e:j=11*(j/11)+j%11:=by omega
  have hg:=a1j OpD.cells 11 (fun _=>rfl) ((List.range len).map f) (j/11) (j%11) (by omega) (by simpa using hk)
  rw[<-e,hj,List.getElem?_map,List.getElem?_range hk]at hg;simp only[Option.map_some,Option.bind_some]at hg;have hc:=b8Q (hf (j/11) hk).1 (i:=j%11) (by omega)
  rw[Go.Deep.add_add,<-hg]at hc;have e2:j/11*11+j%11=j:=by omega
  rwa[e2]at hc
 ·obtain ⟨i,hi,rfl⟩:=List.mem_map.1 ho
  exact (hf i (List.mem_range.1 hi)).2
theorem b3l {H:Type} {enc:TypeId×Value->H} {W:World} {x:DataW H×List MemPlace} {fuel:Nat} {a0:Option Addr} {len cap:Nat} (hE:Env W)
    (hf:DataW.trod enc prog W 0 (fun _=>true) true fuel 22 [.slice a0 len cap]=some x) (hsz:(DataW.weightsEach prog [22] [x.1]).all (·<=reachBytes)=true) (hu:Rows.uptoBulk x.1<=1048576):
    Calls prog 4 #[.slice a0 len cap] W fun e w'=>e=.returned (.bool true)/\Below W.heap.size W w':=by
 rcases Go.Deep.open_slice underlying22 hf with ⟨hcs,_⟩|⟨a,len',cap',m,n,D,Pl,hcs,_,hl,_,hm,hx,hel⟩
 ·simp at hcs
  obtain ⟨rfl,rfl,rfl⟩:=hcs;exact a6R none 0 W hE
 ·simp at hcs
  obtain ⟨rfl,rfl,rfl⟩:=hcs;simp only[if_true]at hm;subst hm;by_cases h0:len=0
  ·subst h0
   exact a6R (some a) m W hE
  ·have hd:x.1=.slice ((List.range len).map D) ((List.range (m-len)).map fun j=>D (len+j)):=by rw[hx]
   have hbytes:len*96<=140737488351232:=by
    rw[hd]at hsz;have:=sized_slice hsz (j:=0) (t:=22) (e:=74) rfl rfl underlying22;rw[c4v]at this;simp only[List.length_map,List.length_range,reachBytes]at this;omega
   have hD:∀i,i<len->Rows.uptoBulk (D i)<=1048576:=fun i hi=>by
    have:=a9Q (List.mem_map_of_mem (f:=D) (List.mem_range.2 hi));rw[hd]at hu;simp only[Rows.uptoBulk]at hu;omega
   rw[b7h]at hel
   obtain ⟨ops,hlen,hc,hok⟩:=b51 (Q:=OpD.ok) (w:=W) (a:=a) (len:=len) (fun i hi=>by
    (obtain ⟨cs',h1,h2⟩:=hel i (by omega));obtain ⟨o,rfl⟩:=c9c h2;exact ⟨o,h1,c8V h2 (hD i hi)⟩)
   subst hlen
   have hbl:a.block<W.heap.size:=by
    (obtain ⟨u,hu⟩:∃u,(ops.flatMap OpD.cells)[0]?=some u:=⟨_,List.getElem?_eq_getElem (by rw[a8y];omega)⟩);have:=World.block_lt_of_cell? W _ (hc 0 u hu);rwa[b1g]at this
   exact b3G ops a m W hE (by omega) hbytes hc hbl hok
open Go.ChangeShapes Go.WideShapes Go.ChangeAt Go.RowKit
theorem a6N (H:Type) (enc:TypeId×Value->H) (W:World) (base:Nat) (args:Array Value) (ds gs:List (DataW H)) (before:List MemPlace)
    (hval:∀(j:Nat) t v,Tryz.f4.params[j]?=some t->args[j]?=some v->Value.okWide prog W .any base t v)
    (hW:DataW.Whole enc prog Tryz.f4.params.toList Rows.programsSpec.vars false W args.toList ds gs before)
    (hsz:(DataW.weightsEach prog (Tryz.f4.params.toList++Rows.programsSpec.plain.varTypes prog) (ds++gs)).all (·<=reachBytes)=true)
    (hu:Rows.uptoSmall H (ds++gs)=true) (hL:laidMetH prog Rows.programsUptoRow.laid W) (hS:W.ShapedOpen prog):
    Calls prog 4 args W fun e W'=>∃v,e=.returned v/\Rows.programsSpec.post enc prog Tryz.f4 false true false false W args v W':=by
 have hE:=c6s hL hS;have hW':=hW;obtain ⟨p,q,hA0,hV,rfl,_,_⟩:=hW;have hA:DataW.TrodAll enc prog W 0 (fun _=>true) true Tryz.f4.params.toList args.toList ds p:=hA0
 rw[params4]at hA hval hsz;obtain ⟨v0,d0,rfl,rfl,h0⟩:=trodAll_one hA;obtain ⟨rfl,rfl⟩:=trodVars_none hV;obtain ⟨a0,len,cap,rfl⟩:=okWide_slice underlying22 (hval 0 22 v0 rfl rfl);have h0k:=h0;obtain ⟨fuel,hf⟩:=h0;clear hA0;simp only[List.append_nil]at hW';have hlt:∀x∈p,x.block<W.heap.size:=fun x hx=>by simpa using hW'.lt x hx
 have hsz':(DataW.weightsEach prog [22] [d0]).all (·<=reachBytes)=true:=hsz
 have hf':DataW.trod enc prog W 0 (fun _=>true) true fuel 22 [.slice a0 len cap]=some (d0,p):=hf
 have hu':Rows.uptoBulk d0<=1048576:=by
  have:=of_decide_eq_true hu;simp only[List.append_nil,Rows.uptoBulkAll]at this;omega
 refine (b3l hE hf' hsz' hu').mono fun e W' ⟨he,hB⟩=>?_
 subst he;refine ⟨_,rfl,_,_,_,[],p,[],hW',?_,?_,rfl,hB.frame _,fun h=>by cases h⟩
 ·exact trodAll_mk1 (shut_bool underlying4 _)
 ·exact trodAll_mk1 (Below.trod c3F (by kernel_rfl) (of_decide_eq_true (by kernel_rfl)) h0k hB hlt)
theorem a82 (os:Os) {H:Type} (enc:TypeId×Value->H):∃places,DataW.whole enc prog ((World.laidAll prog os Rows.programsUptoRow.laid).forCall (fun _ _=>0) ⟨#[],#[.slice none 0 0],[]⟩).memory Tryz.f4.params.toList Rows.programsSpec.vars false #[Value.slice none 0 0].toList 8=some ([.nil],[],places):=
 ⟨[],by kernel_rfl⟩
theorem a7i (os:Os) (H:Type) (enc:TypeId×Value->H):
    ∃(w:World) (tape:Tape) (i:Input),w.os=os/\(w.forCall tape i).Shaped Tryz.checked.prog/\i.vars=[]/\Input.okWide Tryz.checked.prog (w.forCall tape i) .any w.heap.size 4 i/\
     (Rows.OpenSpec.upto Rows.programsSpec).preRow enc Tryz.checked.prog Tryz.f4 Rows.programsUptoRow.domain false Rows.programsUptoRow.laid (w.forCall tape i).memory i.args/\({}:Assume).holds Tryz.checked.prog (lone (Frame.enter Tryz.checked.prog 4 i.args .normal) [] (w.forCall tape i)):=by
 obtain ⟨places,hx⟩:=a82 os enc;have hok:Input.okWideB Tryz.checked.prog ((World.laidAll prog os Rows.programsUptoRow.laid).forCall (fun _ _=>0) ⟨#[],#[.slice none 0 0],[]⟩) 4 ⟨#[],#[.slice none 0 0],[]⟩=true:=by kernel_rfl
 refine ⟨World.laidAll prog os Rows.programsUptoRow.laid,fun _ _=>0,⟨#[],#[.slice none 0 0],[]⟩,World.laidAll_os _ _ _,World.shaped_of_ZipB (by kernel_rfl) (by kernel_rfl),(Input.okWide_of_okWideB (base:=0) hok).1,(Input.okWide_of_okWideB hok).2,?_,?_⟩
 ·exact OpenSpec.preRow_of_cond 8 hx (by kernel_rfl) (fun k hk=>by cases hk;rfl) (by kernel_rfl)
   (by rw[MakeChecks.laidMetH_plain _ _ _ (by kernel_rfl)];exact laidMet_laidAll _ (by kernel_rfl) (by kernel_rfl))
 ·simp only[Assume.holds]
  exact ⟨by simp,by simp,by simp,by simp,by simp⟩
theorem a8p (os:Os) (started:os.Started) (H:Type) (enc:TypeId×Value->H) (F:Stop.Interp):
    ReturnsInHanded {} Tryz.checked os 4 .any ((Rows.OpenSpec.upto Rows.programsSpec).preRow enc prog Tryz.f4 Rows.programsUptoRow.domain false Rows.programsUptoRow.laid) (((Rows.OpenSpec.upto Rows.programsSpec).at F).post enc prog Tryz.f4 false true false false):=by
 refine returnsInHanded_of_row (C:=Tryz.checked) (s:=Rows.OpenSpec.upto Rows.programsSpec) own started (by kernel_rfl) func4 (a7i os H enc) ?_
 intro W base args ds gs before hval hW _ hk hsz hL hS _;exact a6N H enc W base args ds gs before hval hW hsz (hk _ rfl) hL hS
theorem a9a:Tryz.pinned.checked.prog.funcNamed Rows.programsUptoRow.func=some 4:=by kernel_rfl
theorem a8J:joinedFacts Tryz.pinned.checked.prog 4 Tryz.f4 (Rows.OpenSpec.upto Rows.programsSpec).bare Rows.programsUptoRow=true:=by
 unfold joinedFacts
 repeat' (with_reducible refine Bool.and_eq_true_iff.2 ⟨?_,?_⟩)
 all_goals (as_aux_lemma=>kernel_rfl)
theorem a97:Tryz.f4.isInstance Tryz.pinned.checked.prog Rows.programsUptoRow.origin Rows.programsUptoRow.targs:=of_decide_eq_true (by kernel_rfl)
theorem b0l:Tryz.f4.isWrapper Tryz.pinned.checked.prog Rows.programsUptoRow.wrapper Rows.programsUptoRow.mainSum:=by
 unfold Func.isWrapper;first|(rw[if_pos (by decide +kernel)];kernel_rfl)|(rw[if_neg (by decide +kernel)];exact ⟨rfl,rfl⟩)
theorem b0G:Rows.ProgramsUptoSaid:=
 OpenClaim.holds_of_cond 4 Tryz.f4 rfl rfl rfl rfl rfl rfl rfl ⟨rfl,rfl,rfl,rfl,rfl⟩ rfl rfl rfl rfl rfl a9a func4 a8J a97 b0l
  (fun os started H enc _ F=>by rw[OpenClaim.pre_eq_preRow];exact a8p os started H enc F)
theorem a88 (f:FuncId) (fn:Func) (hf:Tryz.pinned.checked.prog.funcNamed "pinion/pinionlaw.Programs"=some f) (hfn:Tryz.pinned.checked.prog.funcs[f]?=some fn):
    true=Tryz.pinned.checked.prog.looks []/\∀(j:Nat) t,fn.params[j]?=some t->Tryz.pinned.checked.prog.wantsStandIn t=false:=by
 obtain rfl:f=4:=Option.some.inj ((show prog.funcNamed "pinion/pinionlaw.Programs"=some 4 by kernel_rfl).symm.trans hf) |>.symm
 obtain rfl:fn=Tryz.f4:=(Option.some.inj (func4.symm.trans hfn)).symm;refine ⟨by kernel_rfl,fun j t ht=>?_⟩
 rw[params4]at ht;obtain rfl:t=22:=by simpa using Array.mem_of_getElem? ht
 exact (show prog.wantsStandIn 22=false by kernel_rfl)
theorem programs_card:Rows.ProgramsUptoCardSaid:=
 Claim7.holds_tied_plain_at .later [] _ _ _ _ b0G (fun _ h=>by cases h) (by kernel_rfl) (fun _ h=>by cases h) programsUpto_row_tie rfl ⟨rfl,rfl⟩ (by kernel_rfl) rfl a88 (by kernel_rfl)
