import Derived.Test.YtbmcofdodfcnnaaGreatDoorGW14
set_option linter.all false
set_option maxHeartbeats 400000000
set_option maxRecDepth 100000
namespace Go.Proofs.YtbmcofdodfcnnaaGreatDoor
open Pn
open Go.Proofs.Tryz
open Go.RowKit
structure OpD where
 kd:Int
 on:Int
 a:Int
 b:Int
 op:Int
 rd:Int
 rs1:Int
 rs2:Int
 imm:Int
 s:ByteArray
 sh:Bool
def OpD.cells (o:OpD):List Value:=a0C o.kd o.on o.a o.b o.op o.rd o.rs1 o.rs2 o.imm o.s o.sh
theorem b3K (o:OpD) (w:World) (hE:Env w) (h1:1<=o.kd) (h4:o.kd<=4):Calls prog 52 #[.agg o.cells.toArray] w fun e w'=>e=.returned (.bool true)/\Below w.heap.size w w':=by
 obtain ⟨kd,on,a,b,op,rd,rs1,rs2,imm,s,sh⟩:=o;simp only at h1 h4;have:kd=1\/kd=2\/kd=3\/kd=4:=by omega
 rcases this with rfl|rfl|rfl|rfl
 ·exact c3s on a b op rd rs1 rs2 imm s sh w
 ·exact c4V on a b op rd rs1 rs2 imm s sh w
 ·exact c4p on a b op rd rs1 rs2 imm s sh w hE
 ·exact c3m on a b op rd rs1 rs2 imm s sh w hE
theorem c4c (o:OpD) (p:Value) (w:World) (hE:Env w) (h4:o.kd<=4):Calls prog 33 #[p,.agg o.cells.toArray] w fun e w'=>e=.returned (.bool true)/\Below w.heap.size w w':=by
 have HE:=a0a (fun o=>hE.alloc o)
 by_cases h1:1<=o.kd
 ·have HK:=a0a (fun (w:World) (hE:Env w)=>b3K o w hE h1 h4)
  obtain ⟨kd,on,a,b,op,rd,rs1,rs2,imm,s,sh⟩:=o;simp only at h1 h4;unfold OpD.cells a0C at *;simp only at HK ⊢;have h6:kd<=6:=by omega
  go_enter func33,ntmps33;go_wp2_with fail;refine (HK.out _ (HE.out _)).mono ?_;rintro e w1 ⟨rfl,hB1⟩;have HB1:=a0a (((Below.refl w.heap.size w).alloc (Nat.le_refl _) _).trans (hB1.mono (by simp)))
  clear hB1;go_wp2_with fail;go_ret;exact ⟨rfl,HB1.out⟩
 ·obtain ⟨kd,on,a,b,op,rd,rs1,rs2,imm,s,sh⟩:=o
  simp only at h1 h4;unfold OpD.cells a0C;simp only;have h7:¬7<=kd:=by omega
  have h10:(kd==10)=false:=by simp;omega
  have h11:¬10<kd:=by omega
  go_enter func33,ntmps33;go_wp2_with fail;go_ret;exact ⟨rfl,(Below.refl _ _).alloc (Nat.le_refl _) _⟩
theorem c5s:(prog.info? 74).map (fun i=>(i.zero,i.size,i.bytes))=some (some (.agg #[.int .i64 0,.int .i64 0,.int .i64 0,.int .i64 0,.int .i64 0,.int .i64 0,.int .i64 0,.int .i64 0,.int .i64 0,.string ⟨#[]⟩,.bool false]),11,96):=by kernel_rfl
def b8D:List OpD:=[⟨1,0,0,0,29,8,8,0,-1,⟨#[]⟩,false⟩,⟨2,0,115,0,0,0,0,0,0,⟨#[]⟩,false⟩,⟨3,0,0,0,29,8,8,0,-1,⟨#[]⟩,false⟩,
 ⟨4,0,0,0,0,0,0,0,0,⟨#[108,100,32,120,49,44,32,56,40,120,50,41]⟩,false⟩,⟨5,0,0,0,29,8,8,0,-1,⟨#[]⟩,false⟩,
 ⟨7,0,0,0,0,0,0,0,0,⟨#[97,58,32,97,100,100,105,32,120,49,44,32,120,49,44,32,49,10,98,110,101,32,120,49,44,32,120,50,44,32,97,10,101,98,114,101,97,107]⟩,true⟩,
 ⟨8,0,0,0,0,0,0,0,0,⟨#[115,0,16,0]⟩,false⟩,⟨9,0,1,0,0,0,0,0,0,⟨#[1,0]⟩,false⟩,⟨10,0,0,0,0,0,0,0,0,⟨#[5,5,2,144]⟩,false⟩,⟨17,0,9,0,0,0,0,0,0,⟨#[]⟩,false⟩,⟨12,0,10,0,0,0,0,0,0,⟨#[]⟩,false⟩]
def b76:List Value:=b8D.flatMap OpD.cells
def a25 (w:World):World:=((w.alloc (.cells #[.slice none 0 0] 72)).alloc (.cells #[.int .i64 29,.int .i64 8,.int .i64 8,.int .i64 0,.int .i64 (-1)] 26)).alloc (.cells b76.toArray 74)
theorem a5u (w:World):(a25 w).heap.size=w.heap.size+3:=by simp[a25]
theorem a4Y (w:World):Below w.heap.size w (a25 w):=(((Below.refl _ _).alloc (Nat.le_refl _) _).alloc (by simp) _).alloc (by simp;omega) _
theorem a9j (w:World):(a25 w).ownsRow w.heap.size 74 11 (.slice (some ⟨w.heap.size+1+1,0,none⟩) 11 11) 11 b76:=by
 refine ⟨rfl,.inr ⟨w.heap.size+1+1,11,b76.toArray,rfl,by omega,?_,Nat.le_refl _,by unfold maxLen;omega,rfl,rfl⟩⟩
 have:=heap_alloc_last ((w.alloc (.cells #[.slice none 0 0] 72)).alloc (.cells #[.int .i64 29,.int .i64 8,.int .i64 8,.int .i64 0,.int .i64 (-1)] 26)) (.cells b76.toArray 74);rw[World.size_alloc,World.size_alloc]at this;exact this
theorem b23 {w w9:World} (h:(a25 w).grownBy w9 (some (w.heap.size+1+1))):Below w.heap.size w w9:=by
 have hb:=a4Y w;refine ⟨h.os.trans hb.os,h.tape.trans hb.tape,h.output.trans hb.output,Nat.le_trans hb.size h.size,fun b hlt=>?_⟩
 rw[h.block b (by rw[a5u];omega) ?_]
 ·exact hb.block b hlt
 ·intro e
  have e2:b=w.heap.size+1+1:=Option.some.inj e;omega
theorem b1g (a:Addr) (j:Nat):(a.add j).block=a.block:=by
 unfold Addr.add;split<;>rfl
theorem b8T (l:List OpD):∀u∈l.flatMap OpD.cells,u.oneCell'=true:=by
 intro u hu;obtain ⟨o,_,ho⟩:=List.mem_flatMap.1 hu;simp[OpD.cells,a0C]at ho;rcases ho with rfl|rfl|rfl|rfl|rfl|rfl|rfl|rfl|rfl|rfl|rfl<;>rfl
theorem a8y (l:List OpD):(l.flatMap OpD.cells).length=l.length*11:=by
 induction l with
 | nil=>rfl
 | cons o l ih=>rw[List.flatMap_cons,List.length_append,ih];simp[OpD.cells,a0C];omega
theorem b4K {w:World} {base g cap:Nat} {l:List OpD} (h:w.ownsRow base 74 11 (.slice (some ⟨g,0,none⟩) l.length cap) l.length (l.flatMap OpD.cells)) {k:Nat} {o:OpD} (ho:l[k]?=some o):
    ∀j u,o.cells[j]?=some u->w.cell? ⟨g,k*11+j,none⟩=some u:=fun j u hj=>by
 have hk:k<l.length:=by
  rcases Nat.lt_or_ge k l.length with h|h
  ·exact h
  ·rw[List.getElem?_eq_none h]at ho;cases ho
 have hj11:j<11:=by
  rcases Nat.lt_or_ge j 11 with h|h
  ·exact h
  ·rw[List.getElem?_eq_none (by simp[OpD.cells,a0C];omega)]at hj;cases hj
 have hf:=a1j OpD.cells 11 (fun _=>rfl) l k j hj11 hk
 rw[ho]at hf;simp only[Option.bind_some]at hf;have:=h.cells (g:=g) rfl (11*k+j) _ (hf.trans hj);rw[<-this]
 have e:(⟨g,0,none⟩:Addr).add (11*k+j)=⟨g,k*11+j,none⟩:=by
  simp only[Addr.add];rw[Nat.mul_comm 11 k];simp;omega
 rw[e]
theorem c2a (b:Addr) (ao:Option Addr) (c:Nat) (ty:TypeId) (w:World):(Builtin.append_ #[22,22] ty #[.slice (some b) 11 11,.slice ao 0 c]).run prog w=.ok (.slice (some b) 11 11) w:=by
 have hu:=underlying22
 cases ao with
 | none=>simp[Builtin.append_,underlying,hu,go_sem,Builtin.firstCells,storeCells]
 | some a=>simp[Builtin.append_,underlying,hu,go_sem,Builtin.firstCells,storeCells]
theorem b3D {o:Oper} {a:Act} {K:Act->World->Prop} {Q:Exit->Act->World->Prop} (w:World) (s x:Operand)
    (ho:o.op=.call { callee:=.builtin .append,args:=#[s,x],argTypes:=#[22,22] }) (b:Addr) (ao:Option Addr) (c m:Nat) (hm:m=11)
    (hs:a.eval s=.slice (some b) 11 11) (hx:a.eval x=.slice ao 0 c) (h:K (a.put o.dst (.slice (some b) m 11)) w):o.wp prog a w K Q:=by
 subst hm;unfold Oper.wp execOp;simp only[ho,resolve,invoke,builtin,Sem.run_bind,Sem.run_pure,Result.andThen_ok,List.map_toArray,List.map_cons,List.map_nil,hs,hx,c2a];exact h
