import Derived.Test.YtbmcofdodfcnnaaGreatDoorGXC
import Derived.Test.YtbmcofdodfcnnaaGreatDoorGNN
set_option linter.all false
set_option maxHeartbeats 0
set_option maxRecDepth 100000
namespace Go
open Proofs Proofs.Tryz
variable {A w : World}
def GU:∀(T r:List UInt8) (c:UInt8),(∀x∈T,x≠c)->Lib.index (T++c::r) [c]=T.length
 | [],r,c,_=>by simp[Lib.index]
 | x::T,r,c,h=>by
  have hx:x≠c:=h x (by simp)
  have ih:=GU T r c (λ y hy=>h y (by simp[hy]))
  simp only[List.cons_append];unfold Lib.index;simp[ih];exact λ e=>absurd e.symm hx
section
open RowKit Maps Shelf
attribute [local go_sem] Oper.semAt_some
abbrev IT:Type:=Nat×aE
def tJ (x:IT):Array Value:=#[.int .i64 x.1,.agg #[.int .i64 x.2.op,.int .i64 x.2.rd,.int .i64 x.2.rs1,.int .i64 x.2.rs2,.int .i64 x.2.imm]]
def ng (x:CK):IT:=(x.1.1,x.1.2.ins)
def zB (i:aE):Bool:=(i.op==0)&&(i.rd==0)&&(i.rs1==0)&&(i.rs2==0)&&(i.imm==0)
def cV (s:ByteArray):List IT:=((gY s.size 0 s.data.toList).takeWhile λ x=>!zB x.1.2.ins).map ng
def jA (W W':World):Prop:=W.heap.size<=W'.heap.size/\∀(k:Nat) (cs:Array Value) (t:TypeId) (fr:Nat×Nat),W.heap[k]?=some (Obj.cells cs t fr)->(t=139\/t=9\/t=153)->W'.heap[k]?=some (Obj.cells cs t fr)
def tz {B C:World} (h:jA A B) (k:jA B C):jA A C:=⟨Nat.le_trans h.1 k.1,λ i cs t fr hi j=>k.2 i cs t fr (h.2 i cs t fr hi j) j⟩
def qA {B:World} (h:Below A.heap.size A B):jA A B:=⟨h.size,λ k _ _ _ j _=>(h.block k (Array.getElem?_eq_some_iff.1 j).1).trans j⟩
def Wy {B:World} (h:jA A B):lT A B:=⟨h.1,λ i cs t fr hi j=>h.2 i cs t fr hi (by rcases j with e|e;exact .inl e;exact .inr (.inl e))⟩
def Il (W) (l) (o o') (j:W.heap[l]?=some o) (q:o.isCells=false):jA W (W.putObj l o'):=by
 refine ⟨by simp[World.putObj],λ k cs t fr h _=>?_⟩
 by_cases e:k=l
 .subst e
  rw[j]at h;cases h
  simp[Obj.isCells]at q
 exact (World.putObj_heap_other e).trans h
def G5 {α:Type} {p:α->Bool}:∀j:List α,(∀x∈j,p x=true)->j.takeWhile p=j
 | [],_=>rfl
 | x::j,h=>by rw[List.takeWhile_cons,zt (h x List.mem_cons_self),G5 j λ y hy=>h y (List.mem_cons_of_mem _ hy)]
def M6 {m y l v:Nat} {P:Program} {f:FuncId} {u:Array Value} {j q:Code} {R:Ending->World->Prop} (h:RoundIn Fence.wide m P l f u j q w R):RoundIn (Fence.wide.inRound v) y P l f u j q w R:=
 ⟨h.1,λ c cs _=>h.2 c cs (by simp[Fence.room,Fence.wide])⟩
def NJ (n) (hn:4<=n) (l Bn) (s) (R:s.size<=2000000) (J Jx:List IT->World->Prop) (W) (hJ:OwnFrom W.heap.size J) (av:OwnFrom W.heap.size Jx) (hY:∀j x W1,J j W1->j.length<s.size->YieldAt Fence.wide (n-1) prog l (tJ x) W1 λ e U=>
      (e=.returned (.bool true)/\J (j++[x]) U/\jA W1 U/\KeepsFrom W.heap.size W1 U)\/(e=.returned (.bool false)/\Jx (j++[x]) U/\KeepsFrom W.heap.size W1 U)) (aq:W.heap[Bn]?=some (.cells #[.string s] 9 (0,0))) (h0:J [] W):
    CallsIn Fence.wide n prog 83 #[.func (.yield l) #[] #[],.pointer (some ⟨Bn,0,none⟩)] W λ e U=>(∃v,e=.returned v)/\
     ((∃ys,ys=cV s/\J ys U)\/(∃j,j <+:cV s/\Jx j U)):=by
 have HY:=aA hY;have cb:W.cell? ⟨Bn,0,none⟩=some (.string s):=by rw[Lib.cell_of_heap aq];rfl
 have bz:=(Array.getElem?_eq_some_iff.1 aq).1;have bq:(W.alloc (.cells #[.func (.yield l) #[] #[]] 153)).cell? ⟨Bn,0,none⟩=some (.string s):=(World.cell?_alloc_some _ _ _ (by rw[cb];rfl)).trans cb
 clear hY;refine callsIn_of_wp_marks func83 rfl trivial ?_ rfl;simp only[ntmps83,List.size_toArray,List.length_cons,List.length_nil,Nat.reduceAdd,Nat.reduceSub,Array.replicate_succ,Array.replicate_zero,List.push_toArray,List.append_toArray,List.nil_append,List.cons_append];gi_wp2_with fail;refine ⟨trivial,λ _=>by omega,(Dt _ s _).mono ?_⟩
 rintro e w1 ⟨rfl,rfl⟩;gi_wp2_with fail;have b1:((W.alloc (.cells #[.func (.yield l) #[] #[]] 153)).alloc (.cells #[.string s] 9)).heap.size=W.heap.size+2:=by simp
 have a8:Below W.heap.size W ((W.alloc (.cells #[.func (.yield l) #[] #[]] 153)).alloc (.cells #[.string s] 9)):=aJ.alloc (by rw[za];omega) _
 have aw:((W.alloc (.cells #[.func (.yield l) #[] #[]] 153)).alloc (.cells #[.string s] 9)).heap[W.heap.size+1]?=some (.cells #[.string s] 9 (0,0)):=by
  have:=heap_alloc_new (W.alloc (.cells #[.func (.yield l) #[] #[]] 153)) (.cells #[.string s] 9);rwa[za]at this
 have az:((W.alloc (.cells #[.func (.yield l) #[] #[]] 153)).alloc (.cells #[.string s] 9)).heap[W.heap.size]?=some (.cells #[.func (.yield l) #[] #[]] 153 (0,0)):=(Below.heap_alloc _ _ _ (by simp)).trans (heap_alloc_new W _)
 have ar:J [] ((W.alloc (.cells #[.func (.yield l) #[] #[]] 153)).alloc (.cells #[.string s] 9)):=hJ.alloc _ (hJ.alloc _ h0);generalize (W.alloc (.cells #[.func (.yield l) #[] #[]] 153)).alloc (.cells #[.string s] 9)=W0 at *
 refine wpIn_rangeFunc_ownH rfl (by omega) (gf:=137) (lb:=#[.pointer (some ⟨W.heap.size+1,0,none⟩)]) rfl trivial (enters_of func137 (by kernel_rfl) rfl)
  (BN (n-1) (by omega) (W.heap.size+1) s R W0 aw) tv (λ W l o o' _ hl ho _=>IJ W l o o' hl ho) aU (λ _=>rfl)
  (λ j V=>(J (j.map ng) V/\V.heap[W.heap.size]?=some (.cells #[.func (.yield l) #[] #[]] 153 (0,0)))/\∀x∈j,zB x.1.2.ins=false)
  (λ c j V=>c=.ret/\((∃u x,j=u++[x]/\zB x.1.2.ins=true/\(∀y∈u,zB y.1.2.ins=false)/\J (u.map ng) V)\/((∀y∈j,zB y.1.2.ins=false)/\Jx (j.map ng) V)))
  ?oI ?oX ⟨⟨ar,az⟩,λ x hx=>by cases hx⟩
  (λ x a' V=>∃T,V.heap[T]?=some (.cells (gC x.1.2).toArray 139 (0,0))/\a' = { tmps:=#[.func (.yield l) #[] #[],.pointer (some ⟨Bn,0,none⟩),.pointer (some ⟨W.heap.size,0,none⟩),.int .i64 x.1.1,.pointer (some ⟨T,0,none⟩),.string s,.func (.func 137) #[] #[.pointer (some ⟨W.heap.size+1,0,none⟩)],.int .i64 x.1.1,.agg (gC x.1.2).toArray,undef,undef,undef,undef,undef,undef,undef,undef,undef,undef,undef,undef],defers:=[] })
  ?oA ?assign ?body ?done ?stop
 case oI=>
  exact λ j A V row R hg hr=>⟨⟨sN hJ (by omega) _ A V row R.1.1 hg hr,nE (β:=Unit) (B:=W0.heap.size) (by omega) () A V row R.1.2 hg hr⟩,R.2⟩
 case oX=>
  rintro c j A V row ⟨rfl,R⟩ hg hr;refine ⟨rfl,?_⟩;rcases R with ⟨u,x,h1,h2,h3,h4⟩|⟨h1,h2⟩
  .exact .inl ⟨u,x,h1,h2,h3,sN hJ (by omega) _ A V row h4 hg hr⟩
  exact .inr ⟨h1,sN av (by omega) _ A V row h2 hg hr⟩
 case oA=>
  intro x a' _ X Y row R hg hr;obtain ⟨T,h1,h3⟩:=R;refine ⟨T,(hg.block T (Array.getElem?_eq_some_iff.1 h1).1 (λ e=>?_)).trans h1,h3⟩
  obtain ⟨_,o,ho,hc⟩:=hr T e.symm;rw[h1]at ho;cases ho
  simp[Obj.isCells]at hc
 case assign=>
  rintro l2 j ⟨⟨k,⟨E,L,⟨N,O,H,I,G⟩⟩⟩,bb⟩ V K ⟨⟨w,C⟩,F⟩ Q;unfold gC at Q;unfold tC;gi_wp2;have ao:Below V.heap.size V (V.alloc (.cells #[.int .i64 E,.int .i64 L,.int .i64 N,.int .i64 O,.int .i64 H,.int .i64 I,.int .i64 G] 139)):=aJ;exact Q _ _ ((KeepsOthers.alloc _ _).from _) (uB ao) ⟨⟨hJ.alloc _ w,(ao.block _ (Array.getElem?_eq_some_iff.1 C).1).trans C⟩,F⟩ ⟨V.heap.size,heap_alloc_new V _,rfl⟩
 case body=>
  rintro l2 j x a' V hl ⟨r,hr⟩ ⟨⟨w,C⟩,F⟩ ⟨T,P,rfl⟩ ba;obtain ⟨fn,tmps,assign,body,hy,hR⟩:=HY.out (j.map ng) (ng x) V w (by rw[List.length_map];exact ba)
  have HR:=aA hR;clear hR;have cy:V.cell? ⟨W.heap.size,0,none⟩=some (.func (.yield l) #[] #[]):=by rw[Lib.cell_of_heap C];rfl
  have a3:=aA w;have af:=aA F;have a2:=aA C;obtain ⟨⟨k,⟨E,L,⟨N,O,H,I,G⟩⟩⟩,bb⟩:=x;unfold gC at P;simp only at P
  have cell:∀q v,(#[.int .i64 E,.int .i64 L,.int .i64 N,.int .i64 O,.int .i64 H,.int .i64 I,.int .i64 G]:Array Value)[q]?=some v->V.cell? ⟨T,q,none⟩=some v:=λ q v h=>by
   rw[Lib.cell_of_heap P];exact h
  have y0:=cell 0 _ rfl;have y1:=cell 1 _ rfl;have y2:=cell 2 _ rfl;have y3:=cell 3 _ rfl;have y4:=cell 4 _ rfl;have y5:=cell 5 _ rfl;have y6:=cell 6 _ rfl;clear cell P w F C ar az aw a8 HY;unfold gC;simp only;dsimp only[tJ,ng]at hy;gi_wp2_with fail
  all_goals first
   | (subst_vars
      (refine ⟨λ _ h=>(by cases h),?_⟩);gi_wp2_with fail;refine ⟨KeepsFrom.refl _ _,rfl,.inl ⟨j,_,rfl,by simp[zB],af.out,a3.out⟩⟩)
   | (have ay:zB ⟨N,O,H,I,G⟩=false:=by simp[zB, *]
      have am:=aA ay;clear ay
      subst_vars
      try rw[hy]
      gi_wp2_with fail;(refine ⟨λ _=>by omega,(M6 HR.out).mono ?_⟩);rintro e W3 (⟨rfl,au,ax,M⟩|⟨rfl,Z,M⟩)
      .have ae:=aA au
       have al:=aA ax;have ac:=aA M;clear au ax M;gi_wp2_with fail;refine ⟨uj ac.out (by omega),Wy al.out,⟨?_,?_⟩,?_⟩
       .rw[List.map_append];exact ae.out
       .exact al.out.2 _ _ _ _ a2.out (.inr (.inr rfl))
       intro y aj;rcases List.mem_append.1 aj with h|h
       .exact af.out y h
       rw[List.mem_singleton]at h;rw[h];exact am.out
      have ae:=aA Z;have ac:=aA M;clear Z M;gi_wp2_with fail;refine ⟨uj ac.out (by omega),rfl,.inr ⟨?_,?_⟩⟩
      .intro y aj
       rcases List.mem_append.1 aj with h|h
       .exact af.out y h
       rw[List.mem_singleton]at h;rw[h];exact am.out
      rw[List.map_append];exact ae.out)
 case done=>
  rintro D zs V hD rfl ⟨⟨w,C⟩,F⟩ Q;have HJ:=aA w;have HZ:=aA F;have a4:=aA (λ o'=>hJ.putObj (l:=D) o' w (by omega) Q rfl)
  clear w F C;gi_wp2_with fail;refine ⟨by simp,.inl ⟨_,_,rfl,run_takeDeferred Q,?_⟩⟩
  refine ⟨_,results_none rfl _ _ _,⟨_,rfl⟩,.inl ⟨_,?_,a4.out _⟩⟩;unfold cV;rw[G5 _ λ x hx=>(by rw[HZ.out x hx];rfl)]
 case stop=>
  rintro D c j V hD aa ⟨rfl,hx⟩ Q;have HX:=aA hx;have HP:=aA aa;clear hx aa;gi_wp2_with fail;refine ⟨by simp,.inl ⟨_,_,rfl,run_takeDeferred Q,?_⟩⟩
  refine ⟨_,results_none rfl _ _ _,⟨_,rfl⟩,?_⟩;obtain ⟨t,ht⟩:=HP.out;rcases HX.out with ⟨u,x,rfl,hz,ak,hj⟩|⟨ak,hj⟩
  .refine .inl ⟨_,?_,hJ.putObj (l:=D) _ hj (by omega) Q rfl⟩
   unfold cV;(rw[<-ht,List.append_assoc,List.takeWhile_append_of_pos (λ y hy=>by rw[ak y hy];rfl)]);simp[hz]
  refine .inr ⟨_,?_,av.putObj (l:=D) _ hj (by omega) Q rfl⟩
  unfold cV;rw[<-ht,List.takeWhile_append_of_pos (λ y hy=>by rw[ak y hy];rfl),List.map_append]
  exact ⟨_,rfl⟩
def xV (n) (D:4<=n) (Bn) (s) (E:s.size<=2000000) (w) (h:w.heap[Bn]?=some (.cells #[.string s] 9 (0,0))):
    Bo Fence.wide n prog 83 #[.pointer (some ⟨Bn,0,none⟩)] tJ jA (λ F=>F=cV s) (λ q=>q <+:cV s) s.size w:=λ l J u W A y j C v=>
 NJ n D l Bn s E J u W y j C ((A.block Bn (Array.getElem?_eq_some_iff.1 h).1).trans h) v
def M5 (n) (s) (w):
    CallsIn Fence.wide n prog 44 #[.string s] w λ e w'=>e=.returned (.func (.func 83) #[] #[.pointer (some ⟨w.heap.size,0,none⟩)])/\w'=w.alloc (.cells #[.string s] 9):=by
 refine callsIn_of_wp func44 rfl trivial ?_ rfl;simp only[ntmps44,List.size_toArray,List.length_cons,List.length_nil,Nat.reduceAdd,Nat.reduceSub,Array.replicate_succ,Array.replicate_zero,List.push_toArray,List.append_toArray,List.nil_append,List.cons_append];gi_wp2;go_ret;exact ⟨rfl,rfl⟩
def Np (n) (h:1<=n) (s) (w):
    CallsIn Fence.wide n prog 23 #[.string s] w λ e w'=>e=.returned (.func (.func 83) #[] #[.pointer (some ⟨w.heap.size,0,none⟩)])/\w'=w.alloc (.cells #[.string s] 9):=by
 refine callsIn_of_wp func23 rfl trivial ?_ rfl;have j:=aA h;clear h;simp only[ntmps23,List.size_toArray,List.length_cons,List.length_nil,Nat.reduceAdd,Nat.reduceSub,Array.replicate_succ,Array.replicate_zero,List.push_toArray,List.append_toArray,List.nil_append,List.cons_append];gi_wp2_with fail;refine ⟨trivial,λ _=>j.out,(M5 _ s _).mono ?_⟩
 rintro e q ⟨rfl,rfl⟩;gi_wp2_with fail;go_ret;exact ⟨rfl,rfl⟩
def JF (s) (short) (w) (y:aS w):
    aG prog 21 #[.string s,.bool short] w (.tuple #[.string ⟨(kE s short).1.toArray⟩,.agg #[.int .i64 (kE s short).2.1,.int .i64 (kE s short).2.2]]):=by
 unfold aG;have u:Hid (aF w.heap.size [.int .i64 0,.int .i64 0] (w.alloc (.cells #[.int .i64 0,.int .i64 0] 39))):=aA (aF.new w [.int .i64 0,.int .i64 0] 39);have q:Hid (Below w.heap.size w (w.alloc (.cells #[.int .i64 0,.int .i64 0] 39))):=aA aJ;have H:=aA (λ w' h=>Kq s short w' h)
 have A:=aA (y.below q.out y.1);generalize kE s short=X at *;obtain ⟨E,F,G⟩:=X;simp only at H;clear y;go_in;go_wp2_with fail;generalize w.alloc _=W at *;refine zK (H.out _ A.out) λ J j=>?_;have u:=aA (u.out.next j);have q:=aA (q.out.trans (j.mono q.out.size));obtain ⟨C,D⟩:=bE u.out.2.2;have I:=u.out.2.1;clear j;go_wp2;refine zp (v:=.tuple #[.string ⟨E.toArray⟩,.agg #[.int .i64 F,.int .i64 G]]) (by simp[results,results21,go_sem,C,D]) rfl ⟨rfl,?_⟩
 exact (q.out.setCell (by simp) _).setCell (by simp) _
def Jj (s) (w) (j:aS w):
    aG prog 20 #[.string s] w (.tuple #[.string ⟨(lK s).1.toArray⟩,.int .i64 (lK s).2]):=by
 unfold aG;have H:=aA (JB s w j);generalize lK s=X at *;obtain ⟨v,y⟩:=X;simp only at H;clear j;go_in;go_wp2_with fail;refine zK H.out λ u h=>?_;have q:=aA h;clear h;go_wp2;go_ret2;exact ⟨rfl,q.out⟩
end
