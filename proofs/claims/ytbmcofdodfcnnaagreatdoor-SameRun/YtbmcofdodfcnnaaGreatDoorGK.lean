import Derived.WalkKit
import Derived.Deep.WholeRow
import Derived.Below
import Derived.Deep.AppendLies
import Derived.Lib.BufferWrite
import Derived.OwnWalk
namespace Go
def runOps (P : Program) (ops : Array Oper) : List Nat → Act → World → Option (Act × World)
  | [], a, w => some (a, w)
  | i :: rest, a, w =>
    match ops[i]? with
    | none => runOps P ops rest a w
    | some o =>
      if Region.wanted o (yielded ops a.tmps) then
        match (execOp a.eval o).run P w with
        | .ok (.value v) w' => runOps P ops rest (a.put o.dst v) w'
        | .ok .skip w' => runOps P ops rest (a.put o.dst undef) w'
        | _ => none
      else runOps P ops rest (a.put o.dst undef) w
theorem wpOps_run {P : Program} {ops : Array Oper} {Q : Exit → Act → World → Prop} : ∀ (is : List Nat) (a : Act) (w : World) (a' : Act) (w' : World),
    runOps P ops is a w = some (a', w') → Q .normal a' w' → wpOps P ops Q is a w
  | [], a, w, a', w', h, q => by simp [runOps] at h; obtain ⟨rfl, rfl⟩ := h; exact q
  | i :: rest, a, w, a', w', h, q => by
    unfold wpOps
    unfold runOps at h
    cases ho : ops[i]? with
    | none => simp only [ho] at h ⊢; exact wpOps_run rest _ _ _ _ h q
    | some o =>
      simp only [ho] at h ⊢
      by_cases hw : Region.wanted o (yielded ops a.tmps) = true
      · simp only [hw, if_true] at h ⊢
        refine Or.inl ?_
        unfold Oper.wp Oper.upon
        split at h
        · rename_i v w1 hr; rw [hr]; exact wpOps_run rest _ _ _ _ h q
        · rename_i w1 hr; rw [hr]; exact wpOps_run rest _ _ _ _ h q
        · simp at h
      · simp only [hw, if_false, Bool.false_eq_true] at h ⊢
        exact wpOps_run rest _ _ _ _ h q
end Go
namespace Go
theorem wpOps_run_then {P : Program} {ops : Array Oper} {Q : Exit → Act → World → Prop} {is2 : List Nat} : ∀ (is : List Nat) (a : Act) (w : World) (a' : Act) (w' : World),
    runOps P ops is a w = some (a', w') → wpOps P ops Q is2 a' w' → wpOps P ops Q (is ++ is2) a w
  | [], a, w, a', w', h, q => by simp [runOps] at h; obtain ⟨rfl, rfl⟩ := h; exact q
  | i :: rest, a, w, a', w', h, q => by
    rw [List.cons_append]
    unfold wpOps
    unfold runOps at h
    cases ho : ops[i]? with
    | none => simp only [ho] at h ⊢; exact wpOps_run_then rest _ _ _ _ h q
    | some o =>
      simp only [ho] at h ⊢
      by_cases hw : Region.wanted o (yielded ops a.tmps) = true
      · simp only [hw, if_true] at h ⊢
        refine Or.inl ?_
        unfold Oper.wp Oper.upon
        split at h
        · rename_i v w1 hr; rw [hr]; exact wpOps_run_then rest _ _ _ _ h q
        · rename_i w1 hr; rw [hr]; exact wpOps_run_then rest _ _ _ _ h q
        · simp at h
      · simp only [hw, if_false, Bool.false_eq_true] at h ⊢
        exact wpOps_run_then rest _ _ _ _ h q
theorem results_cell1 {P : Program} {fn : Func} {s : Nat} {t : TypeId} (h : fn.results = #[.cell s t]) (tmps : Array Value) (a : Addr) (w' : World) (v : Value) (ht : tmps.getD s undef = .pointer (some a)) (hv : (loadVar t a).run P w' = .ok v w') : (results fn tmps).run P w' = .ok v w' := by
  unfold results
  rw [h]
  have ht' : tmps[s]?.getD undef = .pointer (some a) := by simpa using ht
  simp [ht', hv, asAddr]
theorem calls_array {P : Program} {f : FuncId} {fn : Func} {id0 id1 : Nat} {ops0 ops1 : Array Oper} {n : Nat} {o : Oper} {t : TypeId} {y s : Nat} {m : Nat} {e : TypeId} {C Z : Array Value} {w : World}
    (hf : P.funcs[f]? = some fn) (hb : fn.body = some (.seq (.region id0 ops0 false) (.seq (.region id1 ops1 false) .ret)))
    (h : ((runOps P ops0 (List.range ops0.size) { tmps := Array.replicate fn.ntmps undef, defers := [] } w).bind fun r0 =>
        (runOps P ops1 (List.range n) r0.1 r0.2).map fun r => (r.1.tmps.getD s undef, r.1.tmps.getD y undef, r.1.defers, r.2)) = some (.pointer (some ⟨w.heap.size, 0, none⟩), .agg C, [], w.alloc (.cells Z t)))
    (hn : ops1.size = n + 1) (ho : ops1[n]? = some o) (hop : o.op = .store t (.tmp s) (.tmp y)) (hg : o.guard = none) (hd : o.dst = none)
    (hr : fn.results = #[.cell s t])
    (hi : (P.info? t).map (·.size) = some C.size) (hz : Z.size = C.size) (h1 : C.all (·.oneCell') = true) (hu : P.underlying t = some (.array m e)) :
    Calls P f #[] w fun e w1 => e = .returned (.agg C) ∧ w1 = w.alloc (.cells C t) := by
  refine calls_of_wp hf hb ?_
  cases h0 : runOps P ops0 (List.range ops0.size) { tmps := Array.replicate fn.ntmps undef, defers := [] } w with
  | none => simp [h0] at h
  | some r0 =>
    obtain ⟨a1, w1⟩ := r0
    simp only [h0, Option.bind_some] at h
    cases h2 : runOps P ops1 (List.range n) a1 w1 with
    | none => simp [h2] at h
    | some r =>
      obtain ⟨a2, w2⟩ := r
      simp only [h2, Option.map_some, Option.some.injEq, Prod.mk.injEq] at h
      obtain ⟨e1, e2, e3, rfl⟩ := h
      refine wp_seq (wp_region ?_)
      have h0' : runOps P ops0 (List.range ops0.size) { tmps := #[] ++ Array.replicate (fn.ntmps - (#[] : Array Value).size) undef, defers := [] } w = some (a1, w1) := by
        simpa using h0
      refine wpOps_run _ _ _ _ _ h0' ?_
      refine wp_seq (wp_region ?_)
      rw [hn, List.range_succ]
      refine wpOps_run_then _ _ _ _ _ h2 ?_
      unfold wpOps
      simp only [ho]
      have hw : Region.wanted o (yielded ops1 a2.tmps) = true := by simp [Region.wanted, hg]
      simp only [hw, if_true]
      refine Or.inl ?_
      unfold Oper.wp Oper.upon
      have hx : (execOp a2.eval o).run P (w.alloc (.cells Z t)) = .ok .skip (w.alloc (.cells C t)) := by
        have := run_storeAt_new (P := P) w t Z C hi hz h1
        unfold execOp
        rw [hop]
        simp [Act.eval, e1, e2, this]
      rw [hx]
      have hput : a2.put o.dst undef = a2 := by rw [hd]; rfl
      show wpOps P ops1 _ [] (a2.put o.dst undef) (w.alloc (.cells C t))
      rw [hput]
      unfold wpOps
      refine wp_ret ?_
      exact ⟨e3, .agg C, results_cell1 hr _ _ _ _ e1 (run_loadVar_new w t C m e hu hi), rfl, rfl⟩
end Go
namespace Go
open Go.RowKit
def CellsAt (b : Nat) (vs : List Value) (w : World) : Prop := b < w.heap.size ∧ (∀ q, w.frozen? ⟨b, q, none⟩ = false) ∧ ∀ j v, vs[j]? = some v → w.cell? ⟨b, j, none⟩ = some v
theorem CellsAt.step {b : Nat} {vs : List Value} {w w' : World} {B : Nat} (h : CellsAt b vs w) (hB : Below B w w') (hb : b < B) : CellsAt b vs w' :=
  ⟨by have := hB.size; have := h.1; omega, fun q => (hB.frozen (p := ⟨b, q, none⟩) hb).trans (h.2.1 q), fun j v hj => (hB.cell (p := ⟨b, j, none⟩) hb).trans (h.2.2 j v hj)⟩
theorem CellsAt.next {b : Nat} {vs : List Value} {w w' : World} (h : CellsAt b vs w) (hB : Below w.heap.size w w') : CellsAt b vs w' := h.step hB h.1
theorem CellsAt.alloc {b : Nat} {vs : List Value} {w : World} (h : CellsAt b vs w) (o : Obj) : CellsAt b vs (w.alloc o) := h.next ((Below.refl _ _).alloc (Nat.le_refl _) _)
theorem CellsAt.new (w : World) (vs : List Value) (t : TypeId) : CellsAt w.heap.size vs (w.alloc (.cells vs.toArray t)) := by
  refine ⟨by simp, fun q => ?_, fun j v hj => ?_⟩
  · unfold World.frozen?
    have : ({ block := w.heap.size, off := q } : Addr).block = w.heap.size := rfl
    rw [this, heap_alloc_last]
    simp
  · rw [cell_of_row _ _ j _ t (0, 0) (heap_alloc_last w _)]
    simpa using hj
end Go
namespace Go
open Go.RowKit
structure Keeps (c : Nat) (g : Option Nat) (w w' : World) : Prop where
  os : w'.os = w.os
  tape : w'.tape = w.tape
  output : w'.output = w.output
  size : w.heap.size ≤ w'.heap.size
  block : ∀ b, b < w.heap.size → b ≠ c → g ≠ some b → w'.heap[b]? = w.heap[b]?
theorem Keeps.refl (c : Nat) (g : Option Nat) (w : World) : Keeps c g w w := ⟨rfl, rfl, rfl, Nat.le_refl _, fun _ _ _ _ => rfl⟩
theorem Keeps.of_below {c : Nat} {g : Option Nat} {w w' : World} (h : Below w.heap.size w w') : Keeps c g w w' := ⟨h.os, h.tape, h.output, h.size, fun b hb _ _ => h.block b hb⟩
theorem Keeps.of_grown {c : Nat} {g : Option Nat} {w w' : World} (h : w.grownBy w' g) : Keeps c g w w' := ⟨h.os, h.tape, h.output, h.size, fun b hb _ hg => h.block b hb (fun e => hg e.symm)⟩
theorem Keeps.trans {c : Nat} {g : Option Nat} {a b d : World} (h : Keeps c g a b) (k : Keeps c g b d) : Keeps c g a d :=
  ⟨k.os.trans h.os, k.tape.trans h.tape, k.output.trans h.output, Nat.le_trans h.size k.size, fun i hi hc hg => (k.block i (Nat.lt_of_lt_of_le hi h.size) hc hg).trans (h.block i hi hc hg)⟩
theorem Keeps.setCell (c : Nat) (g : Option Nat) (w : World) (q : Nat) (v : Value) : Keeps c g w (w.setCell ⟨c, q, none⟩ v) := by
  refine ⟨rfl, rfl, rfl, ?_, fun b _ hc _ => Below.heap_setCell _ _ _ _ (fun e => hc e)⟩
  simp [World.setCell]
theorem Keeps.below {c : Nat} {g : Option Nat} {B : Nat} {w0 w w' : World} (h : Keeps c g w w') (h0 : Below B w0 w) (hc : B ≤ c) (hg : ∀ b, g = some b → B ≤ b) (hB : B ≤ w0.heap.size) : Below B w0 w' :=
  ⟨h.os.trans h0.os, h.tape.trans h0.tape, h.output.trans h0.output, Nat.le_trans h0.size h.size, fun k hk => by
    rw [h.block k (Nat.lt_of_lt_of_le (Nat.lt_of_lt_of_le hk hB) h0.size) (by omega) (fun e => by have := hg k e; omega)]; exact h0.block k hk⟩
theorem CellsAt.keeps {c : Nat} {g : Option Nat} {w w' : World} {b : Nat} {vs : List Value} (h : CellsAt b vs w) (hk : Keeps c g w w') (hc : b ≠ c) (hg : g ≠ some b) : CellsAt b vs w' := by
  have e := hk.block b h.1 hc hg
  exact ⟨Nat.lt_of_lt_of_le h.1 hk.size, fun q => (World.frozen?_of_block (a := ⟨b, q, none⟩) e).trans (h.2.1 q), fun j v hj => (World.cell?_of_block (a := ⟨b, j, none⟩) e).trans (h.2.2 j v hj)⟩
theorem ownsRow_of_block {w w' : World} {base : Nat} {e : TypeId} {size : Nat} {v : Value} {n : Nat} {xs : List Value} (h : w.ownsRow base e size v n xs) (hb : ∀ g, v.ownBlock = some g → w'.heap[g]? = w.heap[g]?) : w'.ownsRow base e size v n xs := by
  obtain ⟨h1, h2 | ⟨g, cap, cur, hv, hg, hc, h3⟩⟩ := h
  · exact ⟨h1, .inl h2⟩
  · exact ⟨h1, .inr ⟨g, cap, cur, hv, hg, (hb g (by rw [hv]; rfl)).trans hc, h3⟩⟩
theorem CellsAt.set {b : Nat} {vs : List Value} {w : World} (h : CellsAt b vs w) (q : Nat) (v : Value) (hq : q < vs.length) : CellsAt b (vs.set q v) (w.setCell ⟨b, q, none⟩ v) := by
  refine ⟨by simpa [World.setCell] using h.1, fun p => ?_, fun j u hj => ?_⟩
  · rw [World.frozen?_setCell]; exact h.2.1 p
  · by_cases e : j = q
    · subst e
      rw [List.getElem?_set_self hq] at hj
      cases hj
      exact World.cell?_setCell_same _ _ _ (h.2.2 j _ (List.getElem?_eq_getElem hq))
    · rw [List.getElem?_set_ne (fun e' => e e'.symm)] at hj
      rw [World.cell?_setCell_other _ _ _ _ (by intro h'; exact e (by injection h' with _ h2; exact h2.symm))]
      exact h.2.2 j u hj
end Go
namespace Go
open Go.RowKit
def mcells (mem regs : List Int) (pc : Int) : List Value := mem.map (.int .u8) ++ (regs.map (.int .i64) ++ [.int .i64 pc])
structure IsM (T : TypeId) (b : Nat) (mem regs : List Int) (pc : Int) (w : World) : Prop where
  row : w.heap[b]? = some (.cells (mcells mem regs pc).toArray T (0, 0))
  mlen : mem.length = 4096
  rlen : regs.length = 32
  byte : ∀ x ∈ mem, 0 ≤ x ∧ x < 256
theorem mcells_len {mem regs : List Int} {pc : Int} (h1 : mem.length = 4096) (h2 : regs.length = 32) : (mcells mem regs pc).length = 4129 := by
  simp [mcells, h1, h2]
theorem mcells_mem {mem regs : List Int} {pc : Int} (k : Nat) (h : k < mem.length) : (mcells mem regs pc)[k]? = some (.int .u8 (mem.getD k 0)) := by
  unfold mcells
  rw [List.getElem?_append_left (by simpa using h), List.getElem?_map]
  simp [h]
theorem mcells_reg {mem regs : List Int} {pc : Int} (k : Nat) (h1 : mem.length = 4096) (h : k < regs.length) : (mcells mem regs pc)[4096 + k]? = some (.int .i64 (regs.getD k 0)) := by
  unfold mcells
  rw [List.getElem?_append_right (by simp; omega), List.getElem?_append_left (by simp; omega), List.getElem?_map]
  have : 4096 + k - (List.map (Value.int .u8) mem).length = k := by simp; omega
  rw [this]; simp [h]
theorem mcells_pc {mem regs : List Int} {pc : Int} (h1 : mem.length = 4096) (h2 : regs.length = 32) : (mcells mem regs pc)[4128]? = some (.int .i64 pc) := by
  unfold mcells
  rw [List.getElem?_append_right (by simp; omega), List.getElem?_append_right (by simp; omega)]
  simp [h1, h2]
variable {T : TypeId} {b : Nat} {mem regs : List Int} {pc : Int} {w : World}
theorem IsM.lt (h : IsM T b mem regs pc w) : b < w.heap.size := by
  have := h.row
  rcases Nat.lt_or_ge b w.heap.size with h | h
  · exact h
  · rw [Array.getElem?_eq_none h] at this; cases this
theorem IsM.frozen (h : IsM T b mem regs pc w) (q : Nat) : w.frozen? ⟨b, q, none⟩ = false := by
  unfold World.frozen?
  rw [show ({ block := b, off := q } : Addr).block = b from rfl, h.row]
  simp
theorem IsM.cell (h : IsM T b mem regs pc w) (q : Nat) : w.cell? ⟨b, q, none⟩ = (mcells mem regs pc)[q]? := by
  rw [cell_of_row _ _ q _ T (0, 0) h.row]; simp
theorem IsM.cellM (h : IsM T b mem regs pc w) (k : Nat) (hk : k < 4096) : w.cell? ⟨b, k, none⟩ = some (.int .u8 (mem.getD k 0)) := by
  rw [h.cell, mcells_mem k (by rw [h.mlen]; exact hk)]
theorem IsM.cellR (h : IsM T b mem regs pc w) (k : Nat) (hk : k < 32) : w.cell? ⟨b, 4096 + k, none⟩ = some (.int .i64 (regs.getD k 0)) := by
  rw [h.cell, mcells_reg k h.mlen (by rw [h.rlen]; exact hk)]
theorem IsM.cellP (h : IsM T b mem regs pc w) : w.cell? ⟨b, 4128, none⟩ = some (.int .i64 pc) := by
  rw [h.cell, mcells_pc h.mlen h.rlen]
theorem IsM.step {w' : World} {B : Nat} (h : IsM T b mem regs pc w) (hB : Below B w w') (hb : b < B) : IsM T b mem regs pc w' :=
  ⟨(hB.block b hb).trans h.row, h.mlen, h.rlen, h.byte⟩
theorem IsM.next {w' : World} (h : IsM T b mem regs pc w) (hB : Below w.heap.size w w') : IsM T b mem regs pc w' := h.step hB h.lt
theorem mset_reg {mem regs : List Int} {pc : Int} (k : Nat) (v : Int) (h1 : mem.length = 4096) (h : k < regs.length) : (mcells mem regs pc).set (4096 + k) (.int .i64 v) = mcells mem (regs.set k v) pc := by
  unfold mcells
  rw [List.set_append_right _ _ (by simp; omega), List.set_append_left _ _ (by simp; omega)]
  have : 4096 + k - (List.map (Value.int .u8) mem).length = k := by simp; omega
  rw [this, List.map_set]
theorem mset_pc {mem regs : List Int} {pc : Int} (v : Int) (h1 : mem.length = 4096) (h2 : regs.length = 32) : (mcells mem regs pc).set 4128 (.int .i64 v) = mcells mem regs v := by
  unfold mcells
  rw [List.set_append_right _ _ (by simp; omega), List.set_append_right _ _ (by simp; omega)]
  simp [h1, h2]
theorem IsM.setCell (h : IsM T b mem regs pc w) (q : Nat) (v : Value) : (w.setCell ⟨b, q, none⟩ v).heap[b]? = some (.cells ((mcells mem regs pc).set q v).toArray T (0, 0)) := by
  rw [heap_setCell_same w b q _ T v h.row]
  simp
theorem IsM.setR (h : IsM T b mem regs pc w) (k : Nat) (hk : k < 32) (v : Int) : IsM T b mem (regs.set k v) pc (w.setCell ⟨b, 4096 + k, none⟩ (.int .i64 v)) :=
  ⟨by rw [h.setCell, mset_reg k v h.mlen (by rw [h.rlen]; exact hk)], h.mlen, by simpa using h.rlen, h.byte⟩
theorem IsM.setP (h : IsM T b mem regs pc w) (v : Int) : IsM T b mem regs v (w.setCell ⟨b, 4128, none⟩ (.int .i64 v)) :=
  ⟨by rw [h.setCell, mset_pc v h.mlen h.rlen], h.mlen, h.rlen, h.byte⟩
structure Kept (b : Nat) (w w' : World) : Prop where
  os : w'.os = w.os
  tape : w'.tape = w.tape
  output : w'.output = w.output
  size : w.heap.size ≤ w'.heap.size
  block : ∀ k, k < w.heap.size → k ≠ b → w'.heap[k]? = w.heap[k]?
theorem Kept.refl (b : Nat) (w : World) : Kept b w w := ⟨rfl, rfl, rfl, Nat.le_refl _, fun _ _ _ => rfl⟩
theorem Kept.of_below {w w' : World} (h : Below w.heap.size w w') (b : Nat) : Kept b w w' := ⟨h.os, h.tape, h.output, h.size, fun k hk _ => h.block k hk⟩
theorem Kept.trans {b : Nat} {x y z : World} (h : Kept b x y) (k : Kept b y z) : Kept b x z :=
  ⟨k.os.trans h.os, k.tape.trans h.tape, k.output.trans h.output, Nat.le_trans h.size k.size, fun i hi hb => (k.block i (Nat.lt_of_lt_of_le hi h.size) hb).trans (h.block i hi hb)⟩
theorem Kept.setCell (b : Nat) (w : World) (q : Nat) (v : Value) : Kept b w (w.setCell ⟨b, q, none⟩ v) := by
  refine ⟨rfl, rfl, rfl, ?_, fun k _ hk => Below.heap_setCell _ _ _ _ (fun e => hk e)⟩
  simp [World.setCell]
theorem Kept.below {b B : Nat} {w0 w w' : World} (h : Kept b w w') (h0 : Below B w0 w) (hb : B ≤ b) (hB : B ≤ w0.heap.size) : Below B w0 w' :=
  ⟨h.os.trans h0.os, h.tape.trans h0.tape, h.output.trans h0.output, Nat.le_trans h0.size h.size, fun k hk => by
    rw [h.block k (Nat.lt_of_lt_of_le (Nat.lt_of_lt_of_le hk hB) h0.size) (by omega)]; exact h0.block k hk⟩
end Go
namespace Go
open Go.RowKit
theorem run_copy_into {P : Program} (w : World) (dT sT ty elem : TypeId) (g o dLen dCap : Nat) (s : ByteArray) (cur : Array Value) (t : TypeId)
    (hu : P.underlying dT = some (.slice elem)) (hs : (P.info? elem).map (·.size) = some 1) (hg : w.heap[g]? = some (.cells cur t (0, 0))) (hle : s.size ≤ dLen) (hfit : o + s.size ≤ cur.size) :
    (Builtin.copy_ #[dT, sT] ty #[.slice (some ⟨g, o, none⟩) dLen dCap, .string s]).run P w =
      .ok (goInt s.size) (w.setRow g (cur.toList.take o ++ Lib.byteCells s.data.toList ++ cur.toList.drop (o + s.size)).toArray) := Lib.run_copy_row_string w dT sT ty elem g o dLen dCap s cur t hu hs hg hle hfit
def mput (mem : List Int) (a : Nat) (l : List UInt8) : List Int := mem.take a ++ l.map (fun b => (b.toNat : Int)) ++ mem.drop (a + l.length)
theorem mput_len {mem : List Int} {a : Nat} {l : List UInt8} (h : a + l.length ≤ mem.length) : (mput mem a l).length = mem.length := by
  simp [mput]; omega
theorem mput_byte {mem : List Int} {a : Nat} {l : List UInt8} (h : ∀ x ∈ mem, 0 ≤ x ∧ x < 256) : ∀ x ∈ mput mem a l, 0 ≤ x ∧ x < 256 := by
  intro x hx
  simp only [mput, List.mem_append, List.mem_map] at hx
  rcases hx with (hx | ⟨b, _, rfl⟩) | hx
  · exact h x (List.mem_of_mem_take hx)
  · have := b.toNat_lt; omega
  · exact h x (List.mem_of_mem_drop hx)
theorem mcells_put {mem regs : List Int} {pc : Int} {a : Nat} {l : List UInt8} (h : a + l.length ≤ mem.length) :
    (mcells mem regs pc).take a ++ Lib.byteCells l ++ (mcells mem regs pc).drop (a + l.length) = mcells (mput mem a l) regs pc := by
  unfold mcells mput
  rw [List.take_append_of_le_length (by simp; omega), List.drop_append_of_le_length (by simpa using h)]
  simp [Lib.byteCells, Function.comp_def]
theorem IsM.put {T : TypeId} {b : Nat} {mem regs : List Int} {pc : Int} {w : World} (h : IsM T b mem regs pc w) (a : Nat) (l : List UInt8) (ha : a + l.length ≤ 4096) :
    IsM T b (mput mem a l) regs pc (w.setRow b ((mcells mem regs pc).toArray.toList.take a ++ Lib.byteCells l ++ (mcells mem regs pc).toArray.toList.drop (a + l.length)).toArray) := by
  refine ⟨?_, (mput_len (by rw [h.mlen]; exact ha)).trans h.mlen, h.rlen, mput_byte h.byte⟩
  have e : ((mcells mem regs pc).toArray.toList.take a ++ Lib.byteCells l ++ (mcells mem regs pc).toArray.toList.drop (a + l.length)) = mcells (mput mem a l) regs pc := mcells_put (by rw [h.mlen]; exact ha)
  rw [e]
  simp only [World.setRow]
  rw [Array.getElem?_modify]
  simp [h.row]
theorem Kept.setRow (b : Nat) (w : World) (c : Array Value) : Kept b w (w.setRow b c) := by
  refine ⟨rfl, rfl, rfl, by simp [World.setRow], fun k _ hk => ?_⟩
  simp only [World.setRow]
  rw [Array.getElem?_modify, if_neg (fun e => hk e.symm)]
end Go
