import Derived.RangeFuncNested
import Derived.RangeFuncLeaves
import Derived.Test.YtbmcofdodfcnnaaGreatDoorGXC
namespace Go
open Go.RowKit
variable {F : Fence} {n : Nat} {P : Program}
def SeqO {α : Type} (F : Fence) (n : Nat) (P : Program) (g : Nat) (lb : Array Value) (encs : α → Array Value) (Kp : World → World → Prop) (S Sp : List α → Prop) (N : Nat) (w : World) : Prop :=
  ∀ (l : Nat) (J Jx : List α → World → Prop) (W : World), Below w.heap.size w W → OwnFrom W.heap.size J → OwnFrom W.heap.size Jx →
    (∀ pre x W1, J pre W1 → pre.length < N → YieldAt F (n - 1) P l (encs x) W1 fun e W' =>
      (e = .returned (.bool true) ∧ J (pre ++ [x]) W' ∧ Kp W1 W' ∧ KeepsFrom W.heap.size W1 W') ∨ (e = .returned (.bool false) ∧ Jx (pre ++ [x]) W' ∧ KeepsFrom W.heap.size W1 W')) →
    J [] W →
    CallsIn F n P g (#[.func (.yield l) #[] #[]] ++ lb) W fun e W' => (∃ v, e = .returned v) ∧ ((∃ xs, S xs ∧ J xs W') ∨ (∃ pre, Sp pre ∧ Jx pre W'))
theorem own_block {β : Type} {B k : Nat} {o : Obj} (hk : k < B) : OwnFrom B (fun (_ : β) W => W.heap[k]? = some o) := fun _ A W row h hg hr =>
  (hg.block k (Array.getElem?_eq_some_iff.1 h).1 (fun e => by have := (hr k e.symm).1; omega)).trans h
theorem own_ex {β : Type} {B : Nat} {γ : Type} {I : γ → β → World → Prop} (h : ∀ c, OwnFrom B (I c)) : OwnFrom B (fun s W => ∃ c, I c s W) := fun s A W row ⟨c, hc⟩ hg hr => ⟨c, h c s A W row hc hg hr⟩
theorem own_more {β : Type} {B B' : Nat} {I : β → World → Prop} (h : OwnFrom B I) (hB : B ≤ B') : OwnFrom B' I := fun s A W row hs hg hr => h s A W row hs hg (fun r e => ⟨Nat.le_trans hB (hr r e).1, (hr r e).2⟩)
theorem keeps_more {B B' : Nat} {W W' : World} (h : KeepsFrom B W W') (hB : B ≤ B') : KeepsFrom B' W W' := ⟨h.size, fun k o hk => h.same k o (Nat.le_trans hB hk)⟩
theorem keeps_put {B l : Nat} (W : World) (o' : Obj) (hl : l < B) : KeepsFrom B W (W.putObj l o') := KeepsFrom.of_grownBy (grownBy_putObj' W l o') (fun j e => by cases e; exact hl)
set_option maxHeartbeats 1000000 in
theorem wpIn_loopO {α : Type} {g : Operand} {ps : Array Tmp} {assign body : Code} {Q : Exit → Act → World → Prop} {a : Act} {w : World}
    (hro : F.round = none) (h1 : 1 ≤ n) {gf : Nat} {lb : Array Value} (hg : a.eval g = .func (.func gf) #[] lb) (hFg : F.fn gf) (eg : ∀ args w, (callFunc gf args).run P w = .ok (.enter gf args) w)
    {encs : α → Array Value} {Kp : World → World → Prop} {S Sp : List α → Prop} {N : Nat} {w0 : World} (hseq : SeqO F (n - 1) P gf lb encs Kp S Sp N w0)
    (hKt : ∀ {A B C : World}, Kp A B → Kp B C → Kp A C) (hKb : ∀ (W : World) (l : Nat) (o o' : Obj), W.heap[l]? = some o → o.isCells = false → Kp W (W.putObj l o')) (hb0 : Below w0.heap.size w0 w) (hps : ∀ x, (encs x).size = ps.size)
    (I : List α → World → Prop) (Ix : Code → List α → World → Prop) (hI : OwnFrom w.heap.size I) (hIx : ∀ c, OwnFrom w.heap.size (Ix c)) (h0 : I [] w) (Ax : α → Act → World → Prop) (hAx : ∀ x a', OwnFrom w.heap.size (fun (_ : Unit) W => Ax x a' W))
    (hassign : ∀ (l : Nat) (pre : List α) (x : α) (W : World) (K : Act → World → Prop), I pre W → (∀ a' W', KeepsFrom w.heap.size W W' → Kp W W' → I pre W' → Ax x a' W' → K a' W') →
      assign.wpIn (F.inRound l) (n - 1 - 1) P (Exit.then K (fun _ _ _ => False)) { tmps := (ps.zip (encs x)).foldl (fun t (p, v) => t.setIfInBounds p v) a.tmps, defers := [] } W)
    (hbody : ∀ (l : Nat) (pre : List α) (x : α) (a' : Act) (W : World), I pre W → Ax x a' W → pre.length < N → body.wpIn (F.inRound l) (n - 1 - 1) P (ownPostG w.heap.size Kp I Ix (pre ++ [x]) W) a' W)
    (hdone : ∀ (D : Nat) (xs : List α) (W : World), w.heap.size ≤ D → S xs → I xs W → W.heap[D]? = some (.deferred (some [])) → Q .normal { a with defers := { target := .collected D, args := #[] } :: a.defers } W)
    (hstop : ∀ (D : Nat) (c : Code) (pre : List α) (W : World), w.heap.size ≤ D → Sp pre → Ix c pre W → W.heap[D]? = some (.deferred (some [])) → c.wpIn F n P Q { a with defers := { target := .collected D, args := #[] } :: a.defers } W) :
    (Code.rangeFunc g ps assign body).wpIn F n P Q a w := by
  refine wpIn_rangeFunc fun fn hfn => ?_
  rw [hro]
  obtain ⟨R, hR⟩ : ∃ R : LoopState → Option Code → Loop, R = fun st pe => { state := st, pending := pe, fn, tmps := a.tmps, params := ps, assign, body, defers := w.heap.size } := ⟨_, rfl⟩
  obtain ⟨V, hV⟩ : ∃ V, (w.alloc (.deferred (some []))).alloc (.loop (R .ready none)) = V := ⟨_, rfl⟩
  have hVs : V.heap.size = w.heap.size + 2 := by rw [← hV]; simp
  have vL : V.heap[w.heap.size + 1]? = some (.loop (R .ready none)) := by
    rw [← hV]
    have := World.alloc_heap_new (w.alloc (.deferred (some []))) (.loop (R .ready none))
    rwa [World.size_alloc] at this
  have vD : V.heap[w.heap.size]? = some (.deferred (some [])) := by
    rw [← hV]
    exact (Below.heap_alloc _ _ _ (by simp)).trans (World.alloc_heap_new w _)
  have vI : I [] V := by rw [← hV]; exact hI.alloc _ (hI.alloc _ h0)
  have vB : Below w0.heap.size w0 V := by
    rw [← hV]
    exact hb0.trans ((((Below.refl _ w).alloc (Nat.le_refl _) _).alloc (by simp) _).mono hb0.size)
  refine ⟨w.heap.size + 1, [{ target := .collected w.heap.size, args := #[] }], V, { target := .fn (.func gf) lb, args := #[.func (.yield (w.heap.size + 1)) #[] #[]] }, V, gf,
    #[.func (.yield (w.heap.size + 1)) #[] #[]] ++ lb, V, ?_, ?_, ?_, ?_, fun _ => h1, ?_⟩
  · rw [← hV, hR]; exact run_enterLoop_outer _ _ _ _ _
  · simp only [resolve, hg]
    simp [go_sem]
  · intro f' hf'; simp [Target.leads] at hf'; subst hf'; exact hFg
  · simp [invoke, go_sem, eg]
  have oI : OwnFrom V.heap.size (fun (pre : List α) W => I pre W ∧ W.heap[w.heap.size + 1]? = some (.loop (R .ready none)) ∧ W.heap[w.heap.size]? = some (.deferred (some []))) :=
    OwnFrom.and (own_more hI (by omega)) (OwnFrom.and (own_block (by omega)) (own_block (by omega)))
  have oX : OwnFrom V.heap.size (fun (pre : List α) W => ∃ c, Ix c pre W ∧ W.heap[w.heap.size + 1]? = some (.loop (R .done (some c))) ∧ W.heap[w.heap.size]? = some (.deferred (some []))) :=
    own_ex fun c => OwnFrom.and (own_more (hIx c) (by omega)) (OwnFrom.and (own_block (by omega)) (own_block (by omega)))
  refine (hseq (w.heap.size + 1) _ _ V vB oI oX (fun pre x W ⟨hi, hl, hk⟩ hlen => ?_) ⟨vI, vL, vD⟩).mono ?_
  · -- one round
    have hy := run_yield (P := P) (args := encs x) hl (by rw [hR]; exact hps x)
    rw [hR] at hy
    refine ⟨fn, _, assign, body, hy, roundIn_of_wpIn hfn (hassign _ pre x W _ hi fun a' Z hkf hkp hiZ hax => ?_)⟩
    have zL := hkf.same _ _ (by omega) hl rfl
    have zD := hkf.same _ _ (Nat.le_refl _) hk rfl
    have zlt : w.heap.size + 1 < Z.heap.size := (Array.getElem?_eq_some_iff.1 zL).1
    refine ⟨_, run_beginRound zL (by rw [hR]), ?_⟩
    have bL : (Z.putObj (w.heap.size + 1) (.loop { R .ready none with state := .busy })).heap[w.heap.size + 1]? = some (.loop { R .ready none with state := .busy }) := World.putObj_heap_same zlt
    have bD : (Z.putObj (w.heap.size + 1) (.loop { R .ready none with state := .busy })).heap[w.heap.size]? = some (.deferred (some [])) := (World.putObj_heap_other (by omega)).trans zD
    have bK : Kp Z (Z.putObj (w.heap.size + 1) (.loop { R .ready none with state := .busy })) := hKb _ _ _ _ zL rfl
    refine wpIn_mono (hbody _ pre x a' _ (hI.putObj _ hiZ (by omega) zL rfl) ((hAx x a').putObj (s := ()) _ hax (by omega) zL rfl) hlen) ?_
    have keep : ∀ (Y : World) (o' : Obj), KeepsFrom w.heap.size (Z.putObj (w.heap.size + 1) (.loop { R .ready none with state := .busy })) Y → KeepsFrom V.heap.size W (Y.putObj (w.heap.size + 1) o') := fun Y o' hY =>
      (keeps_more hkf (by omega)).trans ((keeps_put _ _ (by omega)).trans ((keeps_more hY (by omega)).trans (keeps_put _ _ (by omega))))
    have fin : ∀ (jump : Option Code) (Y : World), KeepsFrom w.heap.size (Z.putObj (w.heap.size + 1) (.loop { R .ready none with state := .busy })) Y →
        Y.heap[w.heap.size + 1]? = some (.loop { R .ready none with state := .busy }) ∧ ∃ Y', Y' = Y.putObj (w.heap.size + 1) (.loop (R (if jump.isNone then .ready else .done) jump)) ∧ (Instr.endRound (w.heap.size + 1) jump).run P Y = .ok (.bool jump.isNone) Y' ∧
          Y'.heap[w.heap.size + 1]? = some (.loop (R (if jump.isNone then .ready else .done) jump)) ∧ Y'.heap[w.heap.size]? = some (.deferred (some [])) := fun jump Y hY => by
      have yL := hY.same _ _ (by omega) bL rfl
      refine ⟨yL, _, rfl, ?_, World.putObj_heap_same (Array.getElem?_eq_some_iff.1 yL).1, (World.putObj_heap_other (by omega)).trans (hY.same _ _ (Nat.le_refl _) bD rfl)⟩
      have := run_endRound (P := P) jump yL
      rw [hR] at this ⊢
      exact this
    rintro e a3 Y hp
    cases e with
    | normal =>
      obtain ⟨hkY, hpY, hiY⟩ := hp
      obtain ⟨yL, _, rfl, hr, rL, rD⟩ := fin none Y hkY
      exact ⟨_, _, hr, .inl ⟨rfl, ⟨hI.putObj _ hiY (by omega) yL rfl, rL, rD⟩, hKt hkp (hKt (hKt bK hpY) (hKb _ _ _ _ yL rfl)), keep _ _ hkY⟩⟩
    | ret =>
      obtain ⟨hkY, hiY⟩ := hp
      obtain ⟨yL, _, rfl, hr, rL, rD⟩ := fin (some .ret) Y hkY
      exact ⟨_, _, hr, .inr ⟨rfl, ⟨.ret, (hIx _).putObj _ hiY (by omega) yL rfl, rL, rD⟩, keep _ _ hkY⟩⟩
    | exit id =>
      obtain ⟨hkY, hiY⟩ := hp
      obtain ⟨yL, _, rfl, hr, rL, rD⟩ := fin (some (.exit id)) Y hkY
      exact ⟨_, _, hr, .inr ⟨rfl, ⟨.exit id, (hIx _).putObj _ hiY (by omega) yL rfl, rL, rD⟩, keep _ _ hkY⟩⟩
    | goto t =>
      obtain ⟨hkY, hiY⟩ := hp
      obtain ⟨yL, _, rfl, hr, rL, rD⟩ := fin (some (.goto t)) Y hkY
      exact ⟨_, _, hr, .inr ⟨rfl, ⟨.goto t, (hIx _).putObj _ hiY (by omega) yL rfl, rL, rD⟩, keep _ _ hkY⟩⟩
    | panic ch => exact hp.elim
    | outgrown => exact hp.elim
  · -- behind the iterator
    rintro e Y ⟨⟨v, rfl⟩, (⟨xs, hS, hi, hl, hk⟩ | ⟨pre, hSp, c, hi, hl, hk⟩)⟩
    · obtain ⟨o', hE⟩ : ∃ o', (Instr.endLoop (w.heap.size + 1)).run P Y = .ok none (Y.putObj (w.heap.size + 1) o') := ⟨_, by
        have := run_endLoop (P := P) hl (by rw [hR]; simp)
        rw [hR] at this
        exact this⟩
      exact ⟨none, _, hE, hdone _ xs _ (Nat.le_refl _) hS (hI.putObj _ hi (by omega) hl rfl) ((World.putObj_heap_other (by omega)).trans hk)⟩
    · obtain ⟨o', hE⟩ : ∃ o', (Instr.endLoop (w.heap.size + 1)).run P Y = .ok (some c) (Y.putObj (w.heap.size + 1) o') := ⟨_, by
        have := run_endLoop (P := P) hl (by rw [hR]; simp)
        rw [hR] at this
        exact this⟩
      exact ⟨some c, _, hE, hstop _ c pre _ (Nat.le_refl _) hSp ((hIx c).putObj _ hi (by omega) hl rfl) ((World.putObj_heap_other (by omega)).trans hk)⟩
end Go
namespace Go.Proofs.YtbmcofdodfcnnaaGreatDoor
open Go.RowKit Go.Shelf
attribute [local go_sem] Oper.semAt_some
abbrev IT : Type := Nat × Pn.Ins
def itE (x : IT) : Array Value := #[.int .i64 x.1, .agg #[.int .i64 x.2.op, .int .i64 x.2.rd, .int .i64 x.2.rs1, .int .i64 x.2.rs2, .int .i64 x.2.imm]]
def itOf (x : CK) : IT := (x.1.1, x.1.2.ins)
def zB (i : Pn.Ins) : Bool := (i.op == 0) && (i.rd == 0) && (i.rs1 == 0) && (i.rs2 == 0) && (i.imm == 0)
def itemsL (s : ByteArray) : List IT := ((chkF s.size 0 s.data.toList).takeWhile fun x => !zB x.1.2.ins).map itOf
def KpI (W W' : World) : Prop := W.heap.size ≤ W'.heap.size ∧ ∀ (k : Nat) (cs : Array Value) (t : TypeId) (fr : Nat × Nat), W.heap[k]? = some (Obj.cells cs t fr) → (t = 139 ∨ t = 9 ∨ t = 153) → W'.heap[k]? = some (Obj.cells cs t fr)
theorem kpi_t {A B C : World} (h : KpI A B) (k : KpI B C) : KpI A C := ⟨Nat.le_trans h.1 k.1, fun i cs t fr hi ht => k.2 i cs t fr (h.2 i cs t fr hi ht) ht⟩
theorem kpi_below {A B : World} (h : Below A.heap.size A B) : KpI A B := ⟨h.size, fun k _ _ _ hk _ => (h.block k (Array.getElem?_eq_some_iff.1 hk).1).trans hk⟩
theorem kpi_c {A B : World} (h : KpI A B) : KpC A B := ⟨h.1, fun i cs t fr hi ht => h.2 i cs t fr hi (by rcases ht with e | e; exact .inl e; exact .inr (.inl e))⟩
theorem kpi_b (W : World) (l : Nat) (o o' : Obj) (hl : W.heap[l]? = some o) (ho : o.isCells = false) : KpI W (W.putObj l o') := by
  refine ⟨by simp [World.putObj], fun k cs t fr hk _ => ?_⟩
  by_cases e : k = l
  · subst e
    rw [hl] at hk
    cases hk
    simp [Obj.isCells] at ho
  · exact (World.putObj_heap_other e).trans hk
theorem tw_self {α : Type} {p : α → Bool} : ∀ xs : List α, (∀ x ∈ xs, p x = true) → xs.takeWhile p = xs
  | [], _ => rfl
  | x :: xs, h => by rw [List.takeWhile_cons, if_pos (h x List.mem_cons_self), tw_self xs fun y hy => h y (List.mem_cons_of_mem _ hy)]
theorem round_any {m m' l l2 : Nat} {P : Program} {f : FuncId} {tmps : Array Value} {assign body : Code} {w : World} {R : Ending → World → Prop} (h : RoundIn Fence.wide m P l f tmps assign body w R) : RoundIn (Fence.wide.inRound l2) m' P l f tmps assign body w R :=
  ⟨h.1, fun c cs _ => h.2 c cs (by simp [Fence.room, Fence.wide])⟩
set_option maxRecDepth 100000 in
set_option maxHeartbeats 8000000 in
theorem items1_in (n : Nat) (hn : 4 ≤ n) (l Bn : Nat) (s : ByteArray) (hs : s.size ≤ 1000000) (J Jx : List IT → World → Prop) (W : World) (hJ : OwnFrom W.heap.size J) (hJx : OwnFrom W.heap.size Jx)
    (hY : ∀ pre x W1, J pre W1 → pre.length < s.size → YieldAt Fence.wide (n - 1) Tryz.prog l (itE x) W1 fun e W' =>
      (e = .returned (.bool true) ∧ J (pre ++ [x]) W' ∧ KpI W1 W' ∧ KeepsFrom W.heap.size W1 W') ∨ (e = .returned (.bool false) ∧ Jx (pre ++ [x]) W' ∧ KeepsFrom W.heap.size W1 W'))
    (hBn : W.heap[Bn]? = some (.cells #[.string s] 9 (0, 0))) (h0 : J [] W) :
    CallsIn Fence.wide n Tryz.prog 83 #[.func (.yield l) #[] #[], .pointer (some ⟨Bn, 0, none⟩)] W fun e W' => (∃ v, e = .returned v) ∧
      ((∃ ys, ys = itemsL s ∧ J ys W') ∨ (∃ pre, pre <+: itemsL s ∧ Jx pre W')) := by
  have HY := hid hY
  have cb : W.cell? ⟨Bn, 0, none⟩ = some (.string s) := by rw [Lib.cell_of_heap hBn]; rfl
  have hbl := (Array.getElem?_eq_some_iff.1 hBn).1
  have cb2 : (W.alloc (.cells #[.func (.yield l) #[] #[]] 153)).cell? ⟨Bn, 0, none⟩ = some (.string s) := (World.cell?_alloc_some _ _ _ (by rw [cb]; rfl)).trans cb
  clear hY
  refine callsIn_of_wp_marks Tryz.func83 rfl trivial ?_ rfl
  simp only [Tryz.ntmps83, List.size_toArray, List.length_cons, List.length_nil, Nat.reduceAdd, Nat.reduceSub, Array.replicate_succ, Array.replicate_zero, List.push_toArray, List.append_toArray, List.nil_append, List.cons_append]
  gi_wp2_with fail
  refine ⟨trivial, fun _ => by omega, (chunks_in _ s _).mono ?_⟩
  rintro e w1 ⟨rfl, rfl⟩
  gi_wp2_with fail
  have hsz : ((W.alloc (.cells #[.func (.yield l) #[] #[]] 153)).alloc (.cells #[.string s] 9)).heap.size = W.heap.size + 2 := by simp
  have hB0 : Below W.heap.size W ((W.alloc (.cells #[.func (.yield l) #[] #[]] 153)).alloc (.cells #[.string s] 9)) := ((Below.refl _ _).alloc (Nat.le_refl _) _).alloc (by rw [World.size_alloc]; omega) _
  have hbx : ((W.alloc (.cells #[.func (.yield l) #[] #[]] 153)).alloc (.cells #[.string s] 9)).heap[W.heap.size + 1]? = some (.cells #[.string s] 9 (0, 0)) := by
    have := heap_alloc_new (W.alloc (.cells #[.func (.yield l) #[] #[]] 153)) (.cells #[.string s] 9)
    rwa [World.size_alloc] at this
  have hyb : ((W.alloc (.cells #[.func (.yield l) #[] #[]] 153)).alloc (.cells #[.string s] 9)).heap[W.heap.size]? = some (.cells #[.func (.yield l) #[] #[]] 153 (0, 0)) := (Below.heap_alloc _ _ _ (by simp)).trans (heap_alloc_new W _)
  have hJ0 : J [] ((W.alloc (.cells #[.func (.yield l) #[] #[]] 153)).alloc (.cells #[.string s] 9)) := hJ.alloc _ (hJ.alloc _ h0)
  generalize (W.alloc (.cells #[.func (.yield l) #[] #[]] 153)).alloc (.cells #[.string s] 9) = W0 at *
  refine wpIn_rangeFunc_ownH rfl (by omega) (gf := 137) (lb := #[.pointer (some ⟨W.heap.size + 1, 0, none⟩)]) rfl trivial (enters_of Tryz.func137 (by kernel_rfl) rfl)
    (chunks_stops (n - 1) (by omega) (W.heap.size + 1) s hs W0 hbx) kpc_t (fun W l o o' _ hl ho _ => kpc_b W l o o' hl ho) (Below.refl _ _) (fun _ => rfl)
    (fun pre V => (J (pre.map itOf) V ∧ V.heap[W.heap.size]? = some (.cells #[.func (.yield l) #[] #[]] 153 (0, 0))) ∧ ∀ x ∈ pre, zB x.1.2.ins = false)
    (fun c pre V => c = .ret ∧ ((∃ pre' x, pre = pre' ++ [x] ∧ zB x.1.2.ins = true ∧ (∀ y ∈ pre', zB y.1.2.ins = false) ∧ J (pre'.map itOf) V) ∨ ((∀ y ∈ pre, zB y.1.2.ins = false) ∧ Jx (pre.map itOf) V)))
    ?oI ?oX ⟨⟨hJ0, hyb⟩, fun x hx => by cases hx⟩
    (fun x a' V => ∃ Bx, V.heap[Bx]? = some (.cells (chkC x.1.2).toArray 139 (0, 0)) ∧ a' = { tmps := #[.func (.yield l) #[] #[], .pointer (some ⟨Bn, 0, none⟩), .pointer (some ⟨W.heap.size, 0, none⟩), .int .i64 x.1.1, .pointer (some ⟨Bx, 0, none⟩), .string s, .func (.func 137) #[] #[.pointer (some ⟨W.heap.size + 1, 0, none⟩)], .int .i64 x.1.1, .agg (chkC x.1.2).toArray, undef, undef, undef, undef, undef, undef, undef, undef, undef, undef, undef, undef], defers := [] })
    ?oA ?assign ?body ?done ?stop
  case oI =>
    exact fun pre A V row hs hg hr => ⟨⟨own_more hJ (by omega) _ A V row hs.1.1 hg hr, own_block (β := Unit) (B := W0.heap.size) (by omega) () A V row hs.1.2 hg hr⟩, hs.2⟩
  case oX =>
    rintro c pre A V row ⟨rfl, hs⟩ hg hr
    refine ⟨rfl, ?_⟩
    rcases hs with ⟨pre', x, h1, h2, h3, h4⟩ | ⟨h1, h2⟩
    · exact .inl ⟨pre', x, h1, h2, h3, own_more hJ (by omega) _ A V row h4 hg hr⟩
    · exact .inr ⟨h1, own_more hJx (by omega) _ A V row h2 hg hr⟩
  case oA =>
    intro x a' _ X Y row hs hg hr
    obtain ⟨Bx, h1, h3⟩ := hs
    refine ⟨Bx, (hg.block Bx (Array.getElem?_eq_some_iff.1 h1).1 (fun e => ?_)).trans h1, h3⟩
    obtain ⟨_, o, ho, hc⟩ := hr Bx e.symm
    rw [h1] at ho
    cases ho
    simp [Obj.isCells] at hc
  case assign =>
    rintro l2 pre ⟨⟨k, ⟨csize, cnum, ⟨cop, crd, crs1, crs2, cimm⟩⟩⟩, hok⟩ V K ⟨⟨hj1, hy1⟩, hz1⟩ hK
    unfold chkC at hK
    unfold ckE
    gi_wp2
    have hBW : Below V.heap.size V (V.alloc (.cells #[.int .i64 csize, .int .i64 cnum, .int .i64 cop, .int .i64 crd, .int .i64 crs1, .int .i64 crs2, .int .i64 cimm] 139)) := (Below.refl _ _).alloc (Nat.le_refl _) _
    exact hK _ _ ((KeepsOthers.alloc _ _).from _) (kpc_below hBW) ⟨⟨hJ.alloc _ hj1, (hBW.block _ (Array.getElem?_eq_some_iff.1 hy1).1).trans hy1⟩, hz1⟩ ⟨V.heap.size, heap_alloc_new V _, rfl⟩
  case body =>
    rintro l2 pre x a' V hl ⟨r, hr⟩ ⟨⟨hj1, hy1⟩, hz1⟩ ⟨Bx, hBx, rfl⟩ hlt
    obtain ⟨fn, tmps, assign, body, hy, hR⟩ := HY.out (pre.map itOf) (itOf x) V hj1 (by rw [List.length_map]; exact hlt)
    have HR := hid hR
    clear hR
    have cy : V.cell? ⟨W.heap.size, 0, none⟩ = some (.func (.yield l) #[] #[]) := by rw [Lib.cell_of_heap hy1]; rfl
    have HJ1 := hid hj1
    have HZ1 := hid hz1
    have HHY := hid hy1
    obtain ⟨⟨k, ⟨csize, cnum, ⟨cop, crd, crs1, crs2, cimm⟩⟩⟩, hok⟩ := x
    unfold chkC at hBx
    simp only at hBx
    have cell : ∀ q v, (#[.int .i64 csize, .int .i64 cnum, .int .i64 cop, .int .i64 crd, .int .i64 crs1, .int .i64 crs2, .int .i64 cimm] : Array Value)[q]? = some v → V.cell? ⟨Bx, q, none⟩ = some v := fun q v h => by
      rw [Lib.cell_of_heap hBx]; exact h
    have y0 := cell 0 _ rfl
    have y1 := cell 1 _ rfl
    have y2 := cell 2 _ rfl
    have y3 := cell 3 _ rfl
    have y4 := cell 4 _ rfl
    have y5 := cell 5 _ rfl
    have y6 := cell 6 _ rfl
    clear cell hBx hj1 hz1 hy1 hJ0 hyb hbx hB0 HY
    unfold chkC
    simp only
    dsimp only [itE, itOf] at hy
    gi_wp2_with fail
    all_goals first
      | (subst_vars
         refine ⟨fun _ h => (by cases h), ?_⟩
         gi_wp2_with fail
         refine ⟨KeepsFrom.refl _ _, rfl, .inl ⟨pre, _, rfl, by simp [zB], HZ1.out, HJ1.out⟩⟩)
      | (have hnz : zB ⟨cop, crd, crs1, crs2, cimm⟩ = false := by simp [zB, *]
         have HNZ := hid hnz
         clear hnz
         subst_vars
         try rw [hy]
         gi_wp2_with fail
         refine ⟨fun _ => by omega, (round_any HR.out).mono ?_⟩
         rintro e W3 (⟨rfl, hJ3, hk3, hf3⟩ | ⟨rfl, hJx3, hf3⟩)
         · have HJ3 := hid hJ3
           have HK3 := hid hk3
           have HF3 := hid hf3
           clear hJ3 hk3 hf3
           gi_wp2_with fail
           refine ⟨keeps_more HF3.out (by omega), kpi_c HK3.out, ⟨?_, ?_⟩, ?_⟩
           · rw [List.map_append]; exact HJ3.out
           · exact HK3.out.2 _ _ _ _ HHY.out (.inr (.inr rfl))
           · intro y hy'
             rcases List.mem_append.1 hy' with h | h
             · exact HZ1.out y h
             · rw [List.mem_singleton] at h; rw [h]; exact HNZ.out
         · have HJ3 := hid hJx3
           have HF3 := hid hf3
           clear hJx3 hf3
           gi_wp2_with fail
           refine ⟨keeps_more HF3.out (by omega), rfl, .inr ⟨?_, ?_⟩⟩
           · intro y hy'
             rcases List.mem_append.1 hy' with h | h
             · exact HZ1.out y h
             · rw [List.mem_singleton] at h; rw [h]; exact HNZ.out
           · rw [List.map_append]; exact HJ3.out)
  case done =>
    rintro D zs V hD rfl ⟨⟨hj1, hy1⟩, hz1⟩ hK
    have HJ := hid hj1
    have HZ := hid hz1
    have HJP := hid (fun o' => hJ.putObj (l := D) o' hj1 (by omega) hK rfl)
    clear hj1 hz1 hy1
    gi_wp2_with fail
    refine ⟨by simp, .inl ⟨_, _, rfl, run_takeDeferred hK, ?_⟩⟩
    refine ⟨_, results_none rfl _ _ _, ⟨_, rfl⟩, .inl ⟨_, ?_, HJP.out _⟩⟩
    unfold itemsL
    rw [tw_self _ fun x hx => (by rw [HZ.out x hx]; rfl)]
  case stop =>
    rintro D c pre V hD hpre ⟨rfl, hx⟩ hK
    have HX := hid hx
    have HP := hid hpre
    clear hx hpre
    gi_wp2_with fail
    refine ⟨by simp, .inl ⟨_, _, rfl, run_takeDeferred hK, ?_⟩⟩
    refine ⟨_, results_none rfl _ _ _, ⟨_, rfl⟩, ?_⟩
    obtain ⟨t, ht⟩ := HP.out
    rcases HX.out with ⟨pre', x, rfl, hz, hz', hj⟩ | ⟨hz', hj⟩
    · refine .inl ⟨_, ?_, hJ.putObj (l := D) _ hj (by omega) hK rfl⟩
      unfold itemsL
      rw [← ht, List.append_assoc, List.takeWhile_append_of_pos (fun y hy => by rw [hz' y hy]; rfl)]
      simp [hz]
    · refine .inr ⟨_, ?_, hJx.putObj (l := D) _ hj (by omega) hK rfl⟩
      unfold itemsL
      rw [← ht, List.takeWhile_append_of_pos (fun y hy => by rw [hz' y hy]; rfl), List.map_append]
      exact ⟨_, rfl⟩
end Go.Proofs.YtbmcofdodfcnnaaGreatDoor
namespace Go.Proofs.YtbmcofdodfcnnaaGreatDoor
open Go.RowKit Go.Shelf
theorem items_seq (n : Nat) (hn : 4 ≤ n) (Bn : Nat) (s : ByteArray) (hs : s.size ≤ 1000000) (w : World) (hBn : w.heap[Bn]? = some (.cells #[.string s] 9 (0, 0))) :
    SeqO Fence.wide n Tryz.prog 83 #[.pointer (some ⟨Bn, 0, none⟩)] itE KpI (fun ys => ys = itemsL s) (fun pre => pre <+: itemsL s) s.size w := fun l J Jx W hW hJ hJx hY h0 =>
  items1_in n hn l Bn s hs J Jx W hJ hJx hY ((hW.block Bn (Array.getElem?_eq_some_iff.1 hBn).1).trans hBn) h0
theorem aitems_in (n : Nat) (s : ByteArray) (w : World) :
    CallsIn Fence.wide n Tryz.prog 44 #[.string s] w fun e w' => e = .returned (.func (.func 83) #[] #[.pointer (some ⟨w.heap.size, 0, none⟩)]) ∧ w' = w.alloc (.cells #[.string s] 9) := by
  refine callsIn_of_wp Tryz.func44 rfl trivial ?_ rfl
  simp only [Tryz.ntmps44, List.size_toArray, List.length_cons, List.length_nil, Nat.reduceAdd, Nat.reduceSub, Array.replicate_succ, Array.replicate_zero, List.push_toArray, List.append_toArray, List.nil_append, List.cons_append]
  gi_wp2
  go_ret
  exact ⟨rfl, rfl⟩
theorem pitems_in (n : Nat) (hn : 1 ≤ n) (s : ByteArray) (w : World) :
    CallsIn Fence.wide n Tryz.prog 23 #[.string s] w fun e w' => e = .returned (.func (.func 83) #[] #[.pointer (some ⟨w.heap.size, 0, none⟩)]) ∧ w' = w.alloc (.cells #[.string s] 9) := by
  refine callsIn_of_wp Tryz.func23 rfl trivial ?_ rfl
  have HN := hid hn
  clear hn
  simp only [Tryz.ntmps23, List.size_toArray, List.length_cons, List.length_nil, Nat.reduceAdd, Nat.reduceSub, Array.replicate_succ, Array.replicate_zero, List.push_toArray, List.append_toArray, List.nil_append, List.cons_append]
  gi_wp2_with fail
  refine ⟨trivial, fun _ => HN.out, (aitems_in _ s _).mono ?_⟩
  rintro e w1 ⟨rfl, rfl⟩
  gi_wp2_with fail
  go_ret
  exact ⟨rfl, rfl⟩
end Go.Proofs.YtbmcofdodfcnnaaGreatDoor
