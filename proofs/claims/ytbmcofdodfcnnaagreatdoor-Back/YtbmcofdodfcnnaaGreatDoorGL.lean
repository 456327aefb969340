import Derived.Test.YtbmcofdodfcnnaaGreatDoorGK
import Derived.Lib.BufferWrite
import Derived.OwnWalk
namespace Go
open Go.RowKit
/-! a machine in its block: memory, registers, pc -/
def mcells (mem regs : List Int) (pc : Int) : List Value := mem.map (.int .u8) ++ (regs.map (.int .i64) ++ [.int .i64 pc])
structure IsM (T : TypeId) (b : Nat) (mem regs : List Int) (pc : Int) (w : World) : Prop where
  row : w.heap[b]? = some (.cells (mcells mem regs pc).toArray T (0, 0))
  mlen : mem.length = 4096
  rlen : regs.length = 32
  byte : ∀ x ∈ mem, 0 ≤ x ∧ x < 256
theorem mcells_len {mem regs : List Int} {pc : Int} (h1 : mem.length = 4096) (h2 : regs.length = 32) : (mcells mem regs pc).length = 4129 := by
  simp [mcells, h1, h2]
theorem mcells_mem {mem regs : List Int} {pc : Int} (k : Nat) (h : k < mem.length) : (mcells mem regs pc)[k]? = some (.int .u8 (mem.getD k 0)) := by
  unfold mcells
  rw [List.getElem?_append_left (by simpa using h), List.getElem?_map]
  simp [h]
theorem mcells_reg {mem regs : List Int} {pc : Int} (k : Nat) (h1 : mem.length = 4096) (h : k < regs.length) : (mcells mem regs pc)[4096 + k]? = some (.int .i64 (regs.getD k 0)) := by
  unfold mcells
  rw [List.getElem?_append_right (by simp; omega), List.getElem?_append_left (by simp; omega), List.getElem?_map]
  have : 4096 + k - (List.map (Value.int .u8) mem).length = k := by simp; omega
  rw [this]; simp [h]
theorem mcells_pc {mem regs : List Int} {pc : Int} (h1 : mem.length = 4096) (h2 : regs.length = 32) : (mcells mem regs pc)[4128]? = some (.int .i64 pc) := by
  unfold mcells
  rw [List.getElem?_append_right (by simp; omega), List.getElem?_append_right (by simp; omega)]
  simp [h1, h2]
variable {T : TypeId} {b : Nat} {mem regs : List Int} {pc : Int} {w : World}
theorem IsM.lt (h : IsM T b mem regs pc w) : b < w.heap.size := by
  have := h.row
  rcases Nat.lt_or_ge b w.heap.size with h | h
  · exact h
  · rw [Array.getElem?_eq_none h] at this; cases this
theorem IsM.frozen (h : IsM T b mem regs pc w) (q : Nat) : w.frozen? ⟨b, q, none⟩ = false := by
  unfold World.frozen?
  rw [show ({ block := b, off := q } : Addr).block = b from rfl, h.row]
  simp
theorem IsM.cell (h : IsM T b mem regs pc w) (q : Nat) : w.cell? ⟨b, q, none⟩ = (mcells mem regs pc)[q]? := by
  rw [cell_of_row _ _ q _ T (0, 0) h.row]; simp
theorem IsM.cellM (h : IsM T b mem regs pc w) (k : Nat) (hk : k < 4096) : w.cell? ⟨b, k, none⟩ = some (.int .u8 (mem.getD k 0)) := by
  rw [h.cell, mcells_mem k (by rw [h.mlen]; exact hk)]
theorem IsM.cellR (h : IsM T b mem regs pc w) (k : Nat) (hk : k < 32) : w.cell? ⟨b, 4096 + k, none⟩ = some (.int .i64 (regs.getD k 0)) := by
  rw [h.cell, mcells_reg k h.mlen (by rw [h.rlen]; exact hk)]
theorem IsM.cellP (h : IsM T b mem regs pc w) : w.cell? ⟨b, 4128, none⟩ = some (.int .i64 pc) := by
  rw [h.cell, mcells_pc h.mlen h.rlen]
theorem IsM.step {w' : World} {B : Nat} (h : IsM T b mem regs pc w) (hB : Below B w w') (hb : b < B) : IsM T b mem regs pc w' :=
  ⟨(hB.block b hb).trans h.row, h.mlen, h.rlen, h.byte⟩
theorem IsM.next {w' : World} (h : IsM T b mem regs pc w) (hB : Below w.heap.size w w') : IsM T b mem regs pc w' := h.step hB h.lt
theorem mset_reg {mem regs : List Int} {pc : Int} (k : Nat) (v : Int) (h1 : mem.length = 4096) (h : k < regs.length) : (mcells mem regs pc).set (4096 + k) (.int .i64 v) = mcells mem (regs.set k v) pc := by
  unfold mcells
  rw [List.set_append_right _ _ (by simp; omega), List.set_append_left _ _ (by simp; omega)]
  have : 4096 + k - (List.map (Value.int .u8) mem).length = k := by simp; omega
  rw [this, List.map_set]
theorem mset_pc {mem regs : List Int} {pc : Int} (v : Int) (h1 : mem.length = 4096) (h2 : regs.length = 32) : (mcells mem regs pc).set 4128 (.int .i64 v) = mcells mem regs v := by
  unfold mcells
  rw [List.set_append_right _ _ (by simp; omega), List.set_append_right _ _ (by simp; omega)]
  simp [h1, h2]
theorem IsM.setCell (h : IsM T b mem regs pc w) (q : Nat) (v : Value) : (w.setCell ⟨b, q, none⟩ v).heap[b]? = some (.cells ((mcells mem regs pc).set q v).toArray T (0, 0)) := by
  rw [heap_setCell_same w b q _ T v h.row]
  simp
theorem IsM.setR (h : IsM T b mem regs pc w) (k : Nat) (hk : k < 32) (v : Int) : IsM T b mem (regs.set k v) pc (w.setCell ⟨b, 4096 + k, none⟩ (.int .i64 v)) :=
  ⟨by rw [h.setCell, mset_reg k v h.mlen (by rw [h.rlen]; exact hk)], h.mlen, by simpa using h.rlen, h.byte⟩
theorem IsM.setP (h : IsM T b mem regs pc w) (v : Int) : IsM T b mem regs v (w.setCell ⟨b, 4128, none⟩ (.int .i64 v)) :=
  ⟨by rw [h.setCell, mset_pc v h.mlen h.rlen], h.mlen, h.rlen, h.byte⟩
/-- all but the machine's block is as it was -/
structure Kept (b : Nat) (w w' : World) : Prop where
  os : w'.os = w.os
  tape : w'.tape = w.tape
  output : w'.output = w.output
  size : w.heap.size ≤ w'.heap.size
  block : ∀ k, k < w.heap.size → k ≠ b → w'.heap[k]? = w.heap[k]?
theorem Kept.refl (b : Nat) (w : World) : Kept b w w := ⟨rfl, rfl, rfl, Nat.le_refl _, fun _ _ _ => rfl⟩
theorem Kept.of_below {w w' : World} (h : Below w.heap.size w w') (b : Nat) : Kept b w w' := ⟨h.os, h.tape, h.output, h.size, fun k hk _ => h.block k hk⟩
theorem Kept.trans {b : Nat} {x y z : World} (h : Kept b x y) (k : Kept b y z) : Kept b x z :=
  ⟨k.os.trans h.os, k.tape.trans h.tape, k.output.trans h.output, Nat.le_trans h.size k.size, fun i hi hb => (k.block i (Nat.lt_of_lt_of_le hi h.size) hb).trans (h.block i hi hb)⟩
theorem Kept.setCell (b : Nat) (w : World) (q : Nat) (v : Value) : Kept b w (w.setCell ⟨b, q, none⟩ v) := by
  refine ⟨rfl, rfl, rfl, ?_, fun k _ hk => Below.heap_setCell _ _ _ _ (fun e => hk e)⟩
  simp [World.setCell]
theorem Kept.below {b B : Nat} {w0 w w' : World} (h : Kept b w w') (h0 : Below B w0 w) (hb : B ≤ b) (hB : B ≤ w0.heap.size) : Below B w0 w' :=
  ⟨h.os.trans h0.os, h.tape.trans h0.tape, h.output.trans h0.output, Nat.le_trans h0.size h.size, fun k hk => by
    rw [h.block k (Nat.lt_of_lt_of_le (Nat.lt_of_lt_of_le hk hB) h0.size) (by omega)]; exact h0.block k hk⟩
end Go

namespace Go
open Go.RowKit
theorem run_copy_into {P : Program} (w : World) (dT sT ty elem : TypeId) (g o dLen dCap : Nat) (s : ByteArray) (cur : Array Value) (t : TypeId)
    (hu : P.underlying dT = some (.slice elem)) (hs : (P.info? elem).map (·.size) = some 1) (hg : w.heap[g]? = some (.cells cur t (0, 0))) (hle : s.size ≤ dLen) (hfit : o + s.size ≤ cur.size) :
    (Builtin.copy_ #[dT, sT] ty #[.slice (some ⟨g, o, none⟩) dLen dCap, .string s]).run P w =
      .ok (goInt s.size) (w.setRow g (cur.toList.take o ++ Lib.byteCells s.data.toList ++ cur.toList.drop (o + s.size)).toArray) := Lib.run_copy_row_string w dT sT ty elem g o dLen dCap s cur t hu hs hg hle hfit
theorem wpList_copy_into {P : Program} (w : World) {ops : Array Oper} {rest : List Oper} {o : Oper} {a : Act} {Q : Exit → Act → World → Prop} (hgd : o.guard = none) (d x : Operand) (dT sT : TypeId)
    (hop : o.op = Op.call { callee := Callee.builtin Builtin.copy, args := #[d, x], argTypes := #[dT, sT] })
    (elem : TypeId) (hu : P.underlying dT = some (.slice elem)) (hs : (P.info? elem).map (·.size) = some 1) (g off dLen dCap : Nat) (s : ByteArray) (cur : Array Value) (t : TypeId)
    (hd : a.eval d = .slice (some ⟨g, off, none⟩) dLen dCap) (hx : a.eval x = .string s) (hg : w.heap[g]? = some (.cells cur t (0, 0))) (hle : s.size ≤ dLen) (hfit : off + s.size ≤ cur.size)
    (hK : wpList P ops Q rest (a.put o.dst (goInt s.size)) (w.setRow g (cur.toList.take off ++ Lib.byteCells s.data.toList ++ cur.toList.drop (off + s.size)).toArray)) :
    wpList P ops Q (o :: rest) a w := by
  refine wpList_plain hgd fun K hK' => ?_
  have hrun := run_copy_into (P := P) w dT sT o.type elem g off dLen dCap s cur t hu hs hg hle hfit
  generalize (cur.toList.take off ++ Lib.byteCells s.data.toList ++ cur.toList.drop (off + s.size)).toArray = R at hrun hK
  unfold Oper.wp
  simp [execOp, hop, resolve, invoke, builtin, hd, hx, hrun, Result.andThen]
  exact hK' _ _ hK
theorem step_copy_into {P : Program} {ops : Array Oper} {o : Oper} {a : Act} {w : World} {K : Act → World → Prop} {Q : Exit → Act → World → Prop} {E : Prop} (hgd : o.guard = none) (d x : Operand) (dT sT : TypeId)
    (hop : o.op = Op.call { callee := Callee.builtin Builtin.copy, args := #[d, x], argTypes := #[dT, sT] })
    (elem : TypeId) (hu : P.underlying dT = some (.slice elem)) (hs : (P.info? elem).map (·.size) = some 1) (g off dLen dCap : Nat) (s : ByteArray) (cur : Array Value) (t : TypeId)
    (hd : a.eval d = .slice (some ⟨g, off, none⟩) dLen dCap) (hx : a.eval x = .string s) (hg : w.heap[g]? = some (.cells cur t (0, 0))) (hle : s.size ≤ dLen) (hfit : off + s.size ≤ cur.size)
    (hK : K (a.put o.dst (goInt s.size)) (w.setRow g (cur.toList.take off ++ Lib.byteCells s.data.toList ++ cur.toList.drop (off + s.size)).toArray)) :
    if Region.wanted o (yielded ops a.tmps) = true then Oper.wp P o a w K Q else E := by
  have hw : Region.wanted o (yielded ops a.tmps) = true := by simp [Region.wanted, hgd]
  rw [if_pos hw]
  have hrun := run_copy_into (P := P) w dT sT o.type elem g off dLen dCap s cur t hu hs hg hle hfit
  generalize (cur.toList.take off ++ Lib.byteCells s.data.toList ++ cur.toList.drop (off + s.size)).toArray = R at hrun hK
  unfold Oper.wp
  simp [execOp, hop, resolve, invoke, builtin, hd, hx, hrun, Result.andThen]
  exact hK
/-- bytes laid into a machine's memory -/
def mput (mem : List Int) (a : Nat) (l : List UInt8) : List Int := mem.take a ++ l.map (fun b => (b.toNat : Int)) ++ mem.drop (a + l.length)
theorem mput_len {mem : List Int} {a : Nat} {l : List UInt8} (h : a + l.length ≤ mem.length) : (mput mem a l).length = mem.length := by
  simp [mput]; omega
theorem mput_byte {mem : List Int} {a : Nat} {l : List UInt8} (h : ∀ x ∈ mem, 0 ≤ x ∧ x < 256) : ∀ x ∈ mput mem a l, 0 ≤ x ∧ x < 256 := by
  intro x hx
  simp only [mput, List.mem_append, List.mem_map] at hx
  rcases hx with (hx | ⟨b, _, rfl⟩) | hx
  · exact h x (List.mem_of_mem_take hx)
  · have := b.toNat_lt; omega
  · exact h x (List.mem_of_mem_drop hx)
theorem mcells_put {mem regs : List Int} {pc : Int} {a : Nat} {l : List UInt8} (h : a + l.length ≤ mem.length) :
    (mcells mem regs pc).take a ++ Lib.byteCells l ++ (mcells mem regs pc).drop (a + l.length) = mcells (mput mem a l) regs pc := by
  unfold mcells mput
  rw [List.take_append_of_le_length (by simp; omega), List.drop_append_of_le_length (by simpa using h)]
  simp [Lib.byteCells, Function.comp_def]
theorem IsM.put {T : TypeId} {b : Nat} {mem regs : List Int} {pc : Int} {w : World} (h : IsM T b mem regs pc w) (a : Nat) (l : List UInt8) (ha : a + l.length ≤ 4096) :
    IsM T b (mput mem a l) regs pc (w.setRow b ((mcells mem regs pc).toArray.toList.take a ++ Lib.byteCells l ++ (mcells mem regs pc).toArray.toList.drop (a + l.length)).toArray) := by
  refine ⟨?_, (mput_len (by rw [h.mlen]; exact ha)).trans h.mlen, h.rlen, mput_byte h.byte⟩
  have e : ((mcells mem regs pc).toArray.toList.take a ++ Lib.byteCells l ++ (mcells mem regs pc).toArray.toList.drop (a + l.length)) = mcells (mput mem a l) regs pc := mcells_put (by rw [h.mlen]; exact ha)
  rw [e]
  simp only [World.setRow]
  rw [Array.getElem?_modify]
  simp [h.row]
theorem Kept.setRow (b : Nat) (w : World) (c : Array Value) : Kept b w (w.setRow b c) := by
  refine ⟨rfl, rfl, rfl, by simp [World.setRow], fun k _ hk => ?_⟩
  simp only [World.setRow]
  rw [Array.getElem?_modify, if_neg (fun e => hk e.symm)]
end Go
