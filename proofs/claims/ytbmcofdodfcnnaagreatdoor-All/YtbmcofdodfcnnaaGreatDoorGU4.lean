import Derived.Test.YtbmcofdodfcnnaaGreatDoorV10
set_option linter.all false
set_option maxHeartbeats 0
set_option maxRecDepth 100000
namespace Go
open Proofs.Tryz RowKit
variable {T : TypeId} {mem regs mem' regs' : List Int} {pc pc' : Int} {b k : Nat} {w0 w w' : World}
def Xq (kd:Int) (K:kd=1\/kd=2\/kd=3) (b o r1 rd:Nat) (imm p:Int) (w:World) (h:aK T b mem regs pc w) (V:r1<32) (X:rd<32) (o1:29<=o) (o2:o<=41) (Y:iL ⟨o,rd,r1,0,imm⟩=.tuple #[dE (o-1),.bool true]) (E:fN (row (o-1)).kind=kd) (P:dH (regs.getD r1 0)) (Q:dH imm):
    Calls prog 90 #[.pointer (some ⟨b,0,none⟩),(aE.mk o rd r1 0 imm).val,.int .i64 p] w λ e w'=>e=.returned (aO 0 0)/\aK T b mem (eC regs rd (comp o (regs.getD r1 0) imm)) p w'/\aN b w w':=by
 have W:=h.lt;rcases K with rfl|rfl|rfl
 all_goals
  go_in;unfold aE.val;simp only;go_wp2_with fail;refine zK (iI (aE.mk o rd r1 0 imm) _) λ w1 A=>?_;have j:=(show Hid _ from (aV.new h [.int .i64 o,.int .i64 rd,.int .i64 r1,.int .i64 0,.int .i64 imm] 26 56).next A)
  clear A;obtain ⟨N,O,Z,i3⟩:=kt j.out.i.2.2;have L:=j.out.i.1;have M:=j.out.e.1;have m1:=j.out.m.cellR r1 V;have m2:=j.out.m.cellR 0 (by decide)
  have mb:=j.out.m.lt;rw[Y];unfold dE bO;rw[E];have u:=(show Hid _ from P)
  have y:=(show Hid _ from Q)
  clear P Q;generalize D:regs.getD r1 0=U at *;have F:=(show Hid _ from D)
  clear D;go_wp2_with fail;go_quiet (fail);go_wp2_with fail;have q:=(j.out.alloc (.cells (bO (o-1)).toArray 100)).drewN nq;unfold bO at q;rw[E]at q;clear j N O Z i3 L M m1 m2 mb;generalize World.drewN (w1.alloc _) nq=W2 at q ⊢;obtain ⟨N,O,_,_,i4⟩:=bF q.i.2.2
  go_region_held3 (λ w'=>w'.cell? ⟨w.heap.size,0,none⟩=some (.int .i64 o)/\w'.cell? ⟨w.heap.size,1,none⟩=some (.int .i64 rd)/\w'.cell? ⟨w.heap.size,4,none⟩=some (.int .i64 imm)) (go_keep)
   (first
    | (go_at_call 150;refine (Ew o (by omega) (by omega) U imm _ u.out.1 u.out.2 y.out.1 y.out.2).mono ?_;rintro e w' ⟨rfl,rfl⟩)
    | (go_at_call 149;refine (mO b rd _ _ _ (aV.m (by first|assumption|exact aV.drewN q _)) X).mono ?_;rintro e w' ⟨rfl,J,I⟩;obtain ⟨H,C,G⟩:=kg (by first|assumption|exact aV.drewN q _) W J I;obtain ⟨q0,q1,_,_,q4⟩:=bF H.2.2;obtain ⟨f0,f1⟩:=bE C.2.2;have ff:=C.2.1;unfold aO))
  have R:=(show Hid _ from G)
  go_wp2;refine zp (v:=aO 0 0) (by simp[results,results90,go_sem,aO,f0,f1]) rfl ⟨rfl,?_⟩
  rw[F.out];exact R.out _ _
def SN (b) (p) (w) (h:aK T b mem regs pc w):
    aG prog 155 #[.pointer (some ⟨b,0,none⟩),.int .i64 64,.int .i64 p] w (aO 5 pc):=by
 unfold aG;have j:=h.lt;have q:=h.cellP;go_in;go_wp2;refine zp (v:=aO 5 pc) (by simp[results,results155,go_sem,aO]) rfl ⟨rfl,?_⟩
 exact aJ
def SV (b) (p) (w) (h:aK T b mem regs pc w):
    Calls prog 155 #[.pointer (some ⟨b,0,none⟩),.int .i64 63,.int .i64 p] w λ e w'=>e=.returned (aO 4 (regs.getD 17 0))/\aK T b mem regs p w'/\aN b w w':=by
 have j:=h.lt;have q:=h.cellP;have y:=h.cellR 17 (by decide)
 have u:=h.frozen;go_in;go_wp2;refine zp (v:=aO 4 (regs.getD 17 0)) (by simp[results,results155,go_sem,aO]) rfl ⟨rfl,?_,?_⟩
 .exact (h.setP p).alloc _
 exact ((aN.refl b w).near _ _).alloc _
def WY (b) (p) (w) (h:aK T b mem regs pc w):
    Calls prog 90 #[.pointer (some ⟨b,0,none⟩),(aE.mk 64 0 0 0 0).val,.int .i64 p] w λ e w'=>e=.returned (aO 5 pc)/\aK T b mem regs pc w'/\aN b w w':=by
 have F:=h.lt;have G:iL ⟨64,0,0,0,0⟩=.tuple #[dE 63,.bool true]:=rfl;have C:fN (row 63).kind=9:=by decide
 go_in;unfold aE.val;simp only;go_wp2_with fail;refine zK (iI (aE.mk 64 0 0 0 0) _) λ N y=>?_;have j:=(show Hid _ from (aV.new h [.int .i64 64,.int .i64 0,.int .i64 0,.int .i64 0,.int .i64 0] 26 56).next y)
 clear y;obtain ⟨H,I,J,K⟩:=kt j.out.i.2.2;have D:=j.out.i.1;have E:=j.out.e.1;have L:=j.out.m.cellR 0 (by decide)
 have M:=j.out.m.lt;rw[G];unfold dE bO;rw[C];go_wp2_with fail;go_quiet (fail);go_wp2_with fail;have u:∀o,aV T b mem regs pc w [.int .i64 64,.int .i64 0,.int .i64 0,.int .i64 0,.int .i64 0] ((N.alloc o).drewN nq):=λ o=>(j.out.alloc o).drewN nq
 clear j H I J K D E L M;refine zK (SN b p _ (u _).m) λ O A=>?_;have q:=(show Hid _ from (u _).next A)
 clear A u;obtain ⟨f0,f1⟩:=bE q.out.e.2.2;have P:=q.out.e.2.1;unfold aO;go_wp2;refine zp (v:=aO 5 pc) (by simp[results,results90,go_sem,aO,f0,f1]) rfl ⟨rfl,?_⟩
 exact (kg q.out F q.out.m (aN.refl b O)).2.2 _ _
def MQ (b a:Nat) (w:World) (h:aK T b mem regs (a:Int) w) (v:a+4<=4096) (q:aP (cF mem a 2)%4=3):
    zS prog 86 #[.pointer (some ⟨b,0,none⟩)] w (.int .i64 4):=by
 unfold zS;have y:=h.cellP;have A:bA (a:Int) 2=true:=by simp[bA];omega
 have j:=kM (cF mem a 2);rw[sX (by rw[h.mlen];omega)]at j
 have C:bits .and .i64 (bY mem a 2) 3=3:=by
  have u:bY mem a 2=aP (cF mem a 2):=by unfold bY;rw[zo];simp at j;omega
  rw[u];exact (kK _ 2 3 rfl (by decide)).trans (by simpa using q)
 clear j q;go_in
 go_wp2_with (first
  | (go_at_call 50;refine zk (nQ _ _ h) ?_)
  | (go_at_call 87;refine zk (iX _ _ _ _ (by decide) (by decide)) ?_)
  | (go_at_call 88;refine zk (ow _ a 2 _ h (by decide) (by decide) (by omega)) ?_))
 go_ret;exact ⟨rfl,rfl⟩
def DM (n) (w):
    aG prog 89 #[.int .i64 n,.int .i64 4] w (.tuple #[(bW n).1.val,.int .i64 (bW n).2]):=by
 unfold aG;go_in;go_wp2_with fail;refine zK (xx n _) λ C h=>?_;obtain ⟨A,J,u⟩:=(aF.new w zI 26).next h;obtain ⟨E,F,G,H,I⟩:=bF u;have j:Hid (Below w.heap.size w C):=aJ.trans (h.mono (by simp))
 clear h u;generalize q:bW n=D;have y:=(show Hid _ from q)
 clear q;obtain ⟨⟨op,rd,rs1,rs2,imm⟩,er⟩:=D;unfold aE.val;simp only;go_wp2;refine zp (v:=.tuple #[(aE.mk op rd rs1 rs2 imm).val,.int .i64 er]) (by simp[results,results89,go_sem,E,F,G,H,I,aE.val]) rfl ⟨by rw[y.out],kf j.out _ _ _ _ _⟩
structure cS (T:TypeId) (b:Nat) (mem regs:List Int) (pc:Int) (w0:World) (w:World):Prop where
 m:aK T b mem regs pc w
 e:aF w0.heap.size [.int .i64 0,.int .i64 0] w
 k:aN b w0 w
def cS.next (h:cS T b mem regs pc w0 w) (j:Below w.heap.size w w'):cS T b mem regs pc w0 w':=
 ⟨h.m.next j,h.e.next j,h.k.next j⟩
def cS.alloc (h:cS T b mem regs pc w0 w) (o):cS T b mem regs pc w0 (w.alloc o):=h.next aJ
def cS.new (h:aK T b mem regs pc w0) (t):cS T b mem regs pc w0 (w0.alloc (.cells #[.int .i64 0,.int .i64 0] t)):=
 ⟨h.alloc _,aF.new w0 [.int .i64 0,.int .i64 0] t,(aN.refl b w0).alloc _⟩
def cS.fin {p:Int} (h:cS T b mem regs pc w0 w) (u:b<w0.heap.size) (q:aK T b mem' regs' p w') (j:aN b w w'):
    aF w0.heap.size [.int .i64 0,.int .i64 0] w'/\∀x y,aK T b mem' regs' p ((w'.setCell ⟨w0.heap.size,0,none⟩ x).setCell ⟨w0.heap.size,1,none⟩ y)/\aN b w0 ((w'.setCell ⟨w0.heap.size,0,none⟩ x).setCell ⟨w0.heap.size,1,none⟩ y):=
 ⟨h.e.kept j (by omega),λ x y=>⟨(q.far _ _ _ (by omega)).far _ _ _ (by omega),((h.k.trans j).far _ _ _ (by omega)).far _ _ _ (by omega)⟩⟩
def N6 (b a:Nat) (i:aE) (x y:Int) (w:World) (h:aK T b mem regs (a:Int) w) (O:a+4<=4096) (N:aP (cF mem a 2)%4=3) (hi:bW (bY mem a 4)=(i,0)) (u:∀C,aK T b mem regs (a:Int) C->Calls prog 90 #[.pointer (some ⟨b,0,none⟩),i.val,.int .i64 (a+4)] C λ e w'=>e=.returned (aO x y)/\aK T b mem' regs' pc' w'/\aN b C w'):
    Calls prog 48 #[.pointer (some ⟨b,0,none⟩)] w λ e w'=>e=.returned (aO x y)/\aK T b mem' regs' pc' w'/\aN b w w':=by
 have P:=h.lt;have X:bA (a:Int) 4=true:=by simp[bA];omega
 have q:=(show Hid _ from h.alloc (.cells #[.int .i64 0,.int .i64 0] 56))
 have R:=h.cellP;obtain ⟨op,rd,rs1,rs2,imm⟩:=i;unfold aE.val at u;simp only at u;have G:=(show Hid _ from u)
 clear u;go_in
 go_wp2_with (first
  | (go_at_call 86;refine (MQ _ _ _ q.out O N).mono ?_;rintro e w' ⟨rfl,rfl⟩)
  | (go_at_call 50;refine (nQ _ _ q.out).mono ?_;rintro e w' ⟨rfl,rfl⟩)
  | (go_at_call 87;refine (iX _ _ _ _ (by decide) (by decide)).mono ?_;rintro e w' ⟨rfl,rfl⟩)
  | (go_at_call 88;refine (ow _ a 4 _ q.out (by decide) (by decide) (by omega)).mono ?_;rintro e w' ⟨rfl,rfl⟩))
 refine zK (DM _ _) λ C D=>?_;rw[hi];have j:=(show Hid _ from (cS.new h 56).next D)
 clear D R q;have L:=j.out.e.1;have K:=j.out.m.cellP;have Q:=j.out.m.lt;unfold aE.val;simp only;go_wp2_with fail;have A:=(show Hid _ from j.out.alloc (.cells #[.int .i64 op,.int .i64 rd,.int .i64 rs1,.int .i64 rs2,.int .i64 imm] 26))
 have F:=aF.new C [.int .i64 op,.int .i64 rd,.int .i64 rs1,.int .i64 rs2,.int .i64 imm] 26;clear L K j;obtain ⟨Y,Z,i2,i3,i4⟩:=bF F.2.2;clear F;generalize C.alloc (.cells #[.int .i64 op,.int .i64 rd,.int .i64 rs1,.int .i64 rs2,.int .i64 imm] 26)=V at *;have U:=A.out.m.cellP;have wa:IntKind.i64.wrap ((a:Int)+4)=a+4:=zw _ (by omega)
 go_region_with (go_at_call 90;refine (G.out _ (A.out.m.next (aU.drew))).mono ?_;rintro e w' ⟨rfl,J,I⟩;obtain ⟨E,H⟩:=cS.fin (A.out.next (aU.drew)) P J I;obtain ⟨f0,f1⟩:=bE E.2.2;have W:=E.2.1;unfold aO)
 all_goals
  have M:=(show Hid _ from H)
  go_wp2;refine zp (v:=aO x y) (by simp[results,results48,go_sem,aO,f0,f1]) rfl ⟨rfl,?_⟩
  exact M.out _ _
def jm:List Int:=List.replicate 4096 0
def iQ:List Int:=List.replicate 32 0
def Ay:zeroCells90=(eI jm iQ 0).toArray:=by kernel_rfl
def sizeByte:(prog.info? 5).map (·.size)=some 1:=by kernel_rfl
def SD (s) (w) (u:s.size<=4096):
    Calls prog 45 #[.string s] w λ e w'=>e=.returned (.tuple #[.pointer (some ⟨w.heap.size,0,none⟩),.int .i64 0])/\aK 90 w.heap.size (eH jm 0 s.data.toList) iQ 0 w'/\Below w.heap.size w w':=by
 have v:zeroCells90.size=4129:=by rw[Ay,List.size_toArray,xH (by simp[jm]) (by simp[iQ])]
 have q:Hid (aK 90 w.heap.size jm iQ 0 (w.alloc (.cells zeroCells90 90))):=
  (show aK _ _ _ _ _ _ from ⟨by rw[heap_alloc_last,Ay],by simp[jm],by simp[iQ],by intro x hx;simp[jm]at hx;omega⟩)
 have h:=(show Hid _ from q.out.put 0 s.data.toList (by rw[<-Lib.size_eq];omega))
 have j:=(show Hid _ from BB (P:=prog) (w.alloc (.cells zeroCells90 90)) 65 9 3 5 w.heap.size 0 4096 4096 s zeroCells90 90 underlying65 sizeByte (heap_alloc_last w _) u (by omega))
 rw[<-Lib.size_eq,<-Ay]at h;generalize (zeroCells90.toList.take 0++Lib.byteCells s.data.toList++zeroCells90.toList.drop (0+s.size)).toArray=R at h j;rw[World.setRow_alloc_new]at h j;go_in;go_wp2_with fail;rw[j.out];go_wp2;go_ret2;exact ⟨rfl,h.out,aJ⟩
def Q4 (C):∀(n:Nat) (Z:Array Value),n+C.length<=Z.size->((C.zipIdx n).foldl (λ cs (p:Value×Nat)=>cs.setIfInBounds (0+p.2) p.1) Z).toList=Z.toList.take n++C++Z.toList.drop (n+C.length):=by
 induction C with
 | nil=>intro n Z _;simp
 | cons c C ih=>
  intro n Z h;rw[List.zipIdx_cons,List.foldl_cons,ih (n+1) _ (by simp at h ⊢;omega)]
  simp only[List.length_cons]at h;have j:n<Z.toList.length:=by simp;omega
  simp only[Nat.zero_add,Array.toList_setIfInBounds];rw[List.take_set,List.drop_set_of_lt (by omega),List.take_succ_eq_append_getElem j,List.set_append_right _ _ (by simp;omega)]
  simp[List.length_take,Nat.add_assoc,Nat.add_comm 1];rw[show n-min n Z.size=0 by omega]
  rfl
def M2 (j:Nat->Option (Nat×Nat)) (Z C) (h:j 0=some (0,C.size)) (q:Z.size=C.size):Instr.fill j Z [(0,.agg C)]=some C:=by
 have e:(Value.agg C).cells=C:=rfl;simp only[Instr.fill,h,e];rw[aC (by simp[q])]
 congr 1;apply Array.toList_inj.1;rw[<-Array.foldl_toList,Array.toList_zipIdx];have:=Q4 C.toList 0 Z (by simp[q])
 rw[this];simp[q]
def Ra (C) (h:C.size=4129):prog.built 92 [(0,.agg C)]=some C:=by
 have j:((prog.info? 92).bind (·.zero)).map (·.cells.size)=some 4129:=by kernel_rfl
 have q:(match prog.underlying 92 with
  | some (.struct fields)=>fields.toList.mapM (λ f=>(prog.info? f.type).map λ i=>(f.offset,i.size))
  | _=>none)=some [(0,4129)]:=by kernel_rfl
 unfold Program.built
 cases hi:prog.info? 92 with
 | none=>rw[hi]at j;simp at j
 | some i=>
  rw[hi]at j
  cases hu:prog.underlying 92 with
  | none=>rw[hu]at q;simp at q
  | some d=>
   rw[hu]at q
   cases d with
   | struct fields=>
    simp only at q ⊢
    cases hz:i.zero with
    | none=>simp[hz]at j
    | some z=>
     simp[hz]at j;simp only[q];exact M2 _ _ _ (by simp[h]) (j.trans h.symm)
   | _=>simp at q
def UO (b) (C) (T) (w) (h:w.heap[b]?=some (.cells C T (0,0))) (E:C.size=4129):
    (Instr.loadAt 90 (.pointer (some ⟨b,0,none⟩))).run prog w=.ok (.agg C) w:=by
 have y:(isAgg 90).run prog w=.ok true w:=by simp[isAgg,run_underlying underlying90]
 have A:(sizeOf 90).run prog w=.ok 4129 w:=by
  have hi:(prog.info? 90).map (·.size)=some 4129:=by kernel_rfl
  cases hq:prog.info? 90 with
  | none=>rw[hq]at hi;simp at hi
  | some i=>rw[hq]at hi;simp at hi;simp[sizeOf,typeInfo,hq,hi]
 have u:=run_loadCells_list (P:=prog) w ⟨b,0,none⟩ C.toList (λ j v D=>by
  have q:(⟨b,0,none⟩:Addr).add j=⟨b,j,none⟩:=by unfold Addr.add;split<;>simp_all
  rw[q,cell_of_row w b j C T (0,0) h];simpa using D)
 rw[Array.length_toList,E]at u;simp only[Instr.loadAt,Instr.sureAddr,loadVar,Sem.run_bind,Sem.run_pure,Result.andThen,y,A,u,if_true]
def JE {u:Array Oper} {j:List Oper} {o:Oper} {a:Act} {Q:Exit->Act->World->Prop} (y:o.guard=none) (p:Operand) (D:o.op=Op.load 90 p) (b) (C) (T) (E:a.eval p=.pointer (some ⟨b,0,none⟩)) (h:w.heap[b]?=some (.cells C T (0,0))) (F:C.size=4129) (A:wpList prog u Q j (a.put o.dst (.agg C)) w):wpList prog u Q (o::j) a w:=by
 refine wpList_plain y λ K v=>?_
 have q:=UO b C T w h F;unfold Oper.wp;simp only[execOp,D,E];simp[q,Result.andThen];exact v _ _ A
def Ju {q:Array Oper} {h:List Oper} {o:Oper} {a:Act} {Q:Exit->Act->World->Prop} (v:o.guard=none) (p:Operand) (A:o.op=Op.build 92 #[(0,p)]) (C) (D:a.eval p=.agg C) (E:C.size=4129) (y:wpList prog q Q h (a.put o.dst (.agg C)) w):wpList prog q Q (o::h) a w:=by
 refine wpList_plain v λ K u=>?_
 have j:=run_build w 92 #[(0,.agg C)] C (Ra C E);unfold Oper.wp;simp only[execOp,A];simp[D,j,Result.andThen];exact u _ _ y
def Tt (s) (w) (H:s.size<=4096):
    Calls prog 24 #[.string s] w λ e w'=>∃b,e=.returned (.tuple #[.pointer (some ⟨b,0,none⟩),.int .i64 0])/\w.heap.size<=b/\aK 92 b (eH jm 0 s.data.toList) iQ 0 w'/\Below w.heap.size w w':=by
 go_in;go_wp2_with fail;refine (SD s _ H).mono ?_;rintro e y ⟨rfl,q,j⟩;have u:=j.size;have A:=(show Hid _ from j)
 have h:=(show Hid _ from q)
 clear j q;have v:∃C:Array Value,C=(eI (eH jm 0 s.data.toList) iQ 0).toArray:=⟨_,rfl⟩;obtain ⟨C,v⟩:=v;have D:=(show Hid _ from v)
 clear v;have E:C.size=4129:=by rw[D.out,List.size_toArray,xH h.out.mlen h.out.rlen]
 have F:Hid (y.heap[w.heap.size]?=some (.cells C 90 (0,0))):=(show _=_ from by rw[D.out];exact h.out.row)
 have G:Hid (aK 92 y.heap.size (eH jm 0 s.data.toList) iQ 0 (y.alloc (.cells C 92))):=
  (show aK _ _ _ _ _ _ from ⟨by rw[heap_alloc_last,D.out],h.out.mlen,h.out.rlen,h.out.byte⟩)
 go_wp2_with (first
  | (refine JE rfl _ rfl w.heap.size C 90 rfl F.out E ?_)
  | (refine Ju rfl _ rfl C rfl E ?_))
 go_ret2;exact ⟨y.heap.size,rfl,u,G.out,A.out.alloc u _⟩
def SX (h:k<32):fC (k:Int)=true:=by simp[fC];omega
def T1 (b k:Nat) (v:Int) (w:World) (h:aK T b mem regs pc w) (y:k<32):
    Calls prog 47 #[.pointer (some ⟨b,0,none⟩),.int .i64 k,.int .i64 v] w λ e w'=>e=.returned (.int .i64 0)/\aK T b mem (eC regs k v) pc w'/\aN b w w':=by
 have u:=SX y;refine zK (H6 b k v _ h) λ w' j=>?_;rw[zt u];by_cases q:k=0
 .subst q
  simp at j;subst j;exact ⟨rfl,by simpa[eC] using h,aN.refl _ _⟩
 rw[zt ⟨u,by omega⟩]at j
 subst j;exact ⟨rfl,by unfold eC;rw[aC q];exact h.setR k y v,aN.setCell _ _ _ _⟩
def Si (b k:Nat) (v:Int) (w:World) (h:aK T b mem regs pc w) (u:k<32):
    Calls prog 25 #[.pointer (some ⟨b,0,none⟩),.int .i64 k,.int .i64 v] w λ e w'=>e=.returned (.int .i64 0)/\aK T b mem (eC regs k v) pc w'/\aN b w w':=by
 go_in
 go_wp2_with (first
  | (go_at_call 46;refine (mI _ _).mono ?_;rintro e w' ⟨rfl,rfl⟩)
  | (go_at_call 47;refine (T1 b k v _ h u).mono ?_;rintro e w' ⟨rfl,q,j⟩))
 go_ret;exact ⟨rfl,q,j⟩
def Hy (b) (w) (h:aK T b mem regs pc w):
    zS prog 31 #[.pointer (some ⟨b,0,none⟩)] w (.int .i64 pc):=by
 unfold zS;go_in
 go_wp2_with (first
  | (go_at_call 46;refine zk (mI _ _) ?_)
  | (go_at_call 50;refine zk (nQ b _ h) ?_))
 go_ret;exact ⟨rfl,rfl⟩
def Q6 (b) (x y) (w) (h:aK T b mem regs pc w) (D:∀q,aK T b mem regs pc q->Calls prog 48 #[.pointer (some ⟨b,0,none⟩)] q λ e w'=>e=.returned (aO x y)/\aK T b mem' regs' pc' w'/\aN b q w'):
    Calls prog 27 #[.pointer (some ⟨b,0,none⟩)] w λ e w'=>e=.returned (aO x y)/\aK T b mem' regs' pc' w'/\aN b w w':=by
 have F:=h.lt;have j:=(show Hid _ from cS.new h 56)
 have E:=(show Hid _ from D)
 clear D;go_in;go_wp2_with (go_at_call 46;refine zk (mI _ _) ?_);refine (E.out _ j.out.m).mono ?_;rintro e q ⟨rfl,C,A⟩;have u:=(show Hid _ from cS.fin j.out F C A)
 obtain ⟨f0,f1⟩:=bE u.out.1.2.2;have G:=u.out.1.2.1;unfold aO;go_wp2;refine zp (v:=aO x y) (by simp[results,results27,go_sem,aO,f0,f1]) rfl ⟨rfl,?_⟩
 exact u.out.2 _ _
def Rc (b) (m x y n) (w) (h:aK T b mem regs pc w) (D:∀q,aK T b mem regs pc q->Calls prog 57 #[.pointer (some ⟨b,0,none⟩),.int .i64 m] q λ e w'=>e=.returned (.tuple #[aO x y,.int .i64 n])/\aK T b mem' regs' pc' w'/\aN b q w'):
    Calls prog 34 #[.pointer (some ⟨b,0,none⟩),.int .i64 m] w λ e w'=>e=.returned (.tuple #[aO x y,.int .i64 n])/\aK T b mem' regs' pc' w'/\aN b w w':=by
 have F:=h.lt;have j:=(show Hid _ from cS.new h 56)
 have E:=(show Hid _ from D)
 clear D;go_in;go_wp2_with (go_at_call 46;refine zk (mI _ _) ?_);refine (E.out _ j.out.m).mono ?_;rintro e q ⟨rfl,C,A⟩;have u:=(show Hid _ from cS.fin j.out F C A)
 obtain ⟨f0,f1⟩:=bE u.out.1.2.2;have G:=u.out.1.2.1;unfold aO;go_wp2;refine zp (v:=.tuple #[aO x y,.int .i64 n]) (by simp[results,results34,go_sem,aO,f0,f1]) rfl ⟨rfl,?_⟩
 exact u.out.2 _ _
