import Derived.Test.YtbmcofdodfcnnaaGreatDoorM0
import Derived.WalkKit
namespace Pn
open Go
/-- a row of the document's table -/
structure Row where
  name : List UInt8
  kind : Nat
  opc : Int
  f : Int
  g : Int
def rows : List Row := [
  ⟨[97, 100, 100], 82, 51, 0, 0⟩,
  ⟨[115, 117, 98], 82, 51, 0, 32⟩,
  ⟨[115, 108, 108], 82, 51, 1, 0⟩,
  ⟨[115, 108, 116], 82, 51, 2, 0⟩,
  ⟨[115, 108, 116, 117], 82, 51, 3, 0⟩,
  ⟨[120, 111, 114], 82, 51, 4, 0⟩,
  ⟨[115, 114, 108], 82, 51, 5, 0⟩,
  ⟨[115, 114, 97], 82, 51, 5, 32⟩,
  ⟨[111, 114], 82, 51, 6, 0⟩,
  ⟨[97, 110, 100], 82, 51, 7, 0⟩,
  ⟨[109, 117, 108], 82, 51, 0, 1⟩,
  ⟨[109, 117, 108, 104], 82, 51, 1, 1⟩,
  ⟨[109, 117, 108, 104, 115, 117], 82, 51, 2, 1⟩,
  ⟨[109, 117, 108, 104, 117], 82, 51, 3, 1⟩,
  ⟨[100, 105, 118], 82, 51, 4, 1⟩,
  ⟨[100, 105, 118, 117], 82, 51, 5, 1⟩,
  ⟨[114, 101, 109], 82, 51, 6, 1⟩,
  ⟨[114, 101, 109, 117], 82, 51, 7, 1⟩,
  ⟨[97, 100, 100, 119], 82, 59, 0, 0⟩,
  ⟨[115, 117, 98, 119], 82, 59, 0, 32⟩,
  ⟨[115, 108, 108, 119], 82, 59, 1, 0⟩,
  ⟨[115, 114, 108, 119], 82, 59, 5, 0⟩,
  ⟨[115, 114, 97, 119], 82, 59, 5, 32⟩,
  ⟨[109, 117, 108, 119], 82, 59, 0, 1⟩,
  ⟨[100, 105, 118, 119], 82, 59, 4, 1⟩,
  ⟨[100, 105, 118, 117, 119], 82, 59, 5, 1⟩,
  ⟨[114, 101, 109, 119], 82, 59, 6, 1⟩,
  ⟨[114, 101, 109, 117, 119], 82, 59, 7, 1⟩,
  ⟨[97, 100, 100, 105], 73, 19, 0, 0⟩,
  ⟨[115, 108, 116, 105], 73, 19, 2, 0⟩,
  ⟨[115, 108, 116, 105, 117], 73, 19, 3, 0⟩,
  ⟨[120, 111, 114, 105], 73, 19, 4, 0⟩,
  ⟨[111, 114, 105], 73, 19, 6, 0⟩,
  ⟨[97, 110, 100, 105], 73, 19, 7, 0⟩,
  ⟨[115, 108, 108, 105], 72, 19, 1, 0⟩,
  ⟨[115, 114, 108, 105], 72, 19, 5, 0⟩,
  ⟨[115, 114, 97, 105], 72, 19, 5, 16⟩,
  ⟨[97, 100, 100, 105, 119], 73, 27, 0, 0⟩,
  ⟨[115, 108, 108, 105, 119], 87, 27, 1, 0⟩,
  ⟨[115, 114, 108, 105, 119], 87, 27, 5, 0⟩,
  ⟨[115, 114, 97, 105, 119], 87, 27, 5, 32⟩,
  ⟨[108, 98], 76, 3, 0, 0⟩,
  ⟨[108, 104], 76, 3, 1, 0⟩,
  ⟨[108, 119], 76, 3, 2, 0⟩,
  ⟨[108, 100], 76, 3, 3, 0⟩,
  ⟨[108, 98, 117], 76, 3, 4, 0⟩,
  ⟨[108, 104, 117], 76, 3, 5, 0⟩,
  ⟨[108, 119, 117], 76, 3, 6, 0⟩,
  ⟨[106, 97, 108, 114], 76, 103, 0, 0⟩,
  ⟨[115, 98], 83, 35, 0, 0⟩,
  ⟨[115, 104], 83, 35, 1, 0⟩,
  ⟨[115, 119], 83, 35, 2, 0⟩,
  ⟨[115, 100], 83, 35, 3, 0⟩,
  ⟨[98, 101, 113], 66, 99, 0, 0⟩,
  ⟨[98, 110, 101], 66, 99, 1, 0⟩,
  ⟨[98, 108, 116], 66, 99, 4, 0⟩,
  ⟨[98, 103, 101], 66, 99, 5, 0⟩,
  ⟨[98, 108, 116, 117], 66, 99, 6, 0⟩,
  ⟨[98, 103, 101, 117], 66, 99, 7, 0⟩,
  ⟨[108, 117, 105], 85, 55, 0, 0⟩,
  ⟨[97, 117, 105, 112, 99], 85, 23, 0, 0⟩,
  ⟨[106, 97, 108], 74, 111, 0, 0⟩,
  ⟨[101, 99, 97, 108, 108], 78, 115, 0, 0⟩,
  ⟨[101, 98, 114, 101, 97, 107], 78, 115, 0, 1⟩]
def rowCells (r : Row) : List Value := [.string ⟨r.name.toArray⟩, .int .u8 r.kind, .int .i64 r.opc, .int .i64 r.f, .int .i64 r.g]
def rowsCells : Array Value := (rows.flatMap rowCells).toArray
theorem rows_len : rows.length = 64 := rfl
/-- the row of op k + 1 -/
def row (k : Nat) : Row := rows.getD k ⟨[], 0, 0, 0, 0⟩
theorem flat_get {α β : Type} (f : α → List β) (m : Nat) (hf : ∀ a, (f a).length = m) : ∀ (l : List α) (k j : Nat), j < m → k < l.length →
    (l.flatMap f)[m * k + j]? = (l[k]?.bind fun a => (f a)[j]?)
  | [], k, j, _, hk => by simp at hk
  | a :: l, 0, j, hj, _ => by simp [List.flatMap_cons, List.getElem?_append, hf, hj]
  | a :: l, k + 1, j, hj, hk => by
    have := flat_get f m hf l k j hj (by simpa using hk)
    rw [List.flatMap_cons, List.getElem?_append_right (by rw [hf, Nat.mul_succ]; omega), hf]
    have e : m * (k + 1) + j - m = m * k + j := by rw [Nat.mul_succ]; omega
    rw [e, this]; simp
theorem rowsCells_get (k j : Nat) (hk : k < 64) (hj : j < 5) : rowsCells[5 * k + j]? = (rowCells (row k))[j]? := by
  unfold rowsCells
  rw [List.getElem?_toArray, flat_get rowCells 5 (fun _ => rfl) rows k j hj (by rw [rows_len]; exact hk)]
  have : rows[k]? = some (row k) := by
    unfold row; rw [List.getD_eq_getElem?_getD, List.getElem?_eq_getElem (by rw [rows_len]; exact hk)]; rfl
  rw [this]; rfl
/-- cells that hold the table -/
def RowsC (C : Array Value) : Prop := ∀ k : Nat, k < 64 → C[k * 5]? = some (.string ⟨(row k).name.toArray⟩) ∧ C[k * 5 + 1]? = some (.int .u8 (row k).kind) ∧
  C[k * 5 + 2]? = some (.int .i64 (row k).opc) ∧ C[k * 5 + 3]? = some (.int .i64 (row k).f) ∧ C[k * 5 + 4]? = some (.int .i64 (row k).g)
theorem rowsC : RowsC rowsCells := fun k hk => by
  rw [Nat.mul_comm k 5]
  exact ⟨rowsCells_get k 0 hk (by omega), rowsCells_get k 1 hk (by omega), rowsCells_get k 2 hk (by omega), rowsCells_get k 3 hk (by omega), rowsCells_get k 4 hk (by omega)⟩
end Pn
namespace Pn
open Go
/-- has a kind Rd, Rs1, Rs2? -/
def has (k : Nat) : Bool × Bool × Bool :=
  if k = 82 then (true, true, true) else if k = 83 ∨ k = 66 then (false, true, true) else if k = 85 ∨ k = 74 then (true, false, false)
  else if k = 78 then (false, false, false) else (true, true, false)
def between (n lo hi : Int) : Bool := decide (lo ≤ n) && decide (n ≤ hi)
/-- may a kind have this Imm? -/
def fitsImm (k : Nat) (n : Int) : Bool :=
  if k = 73 ∨ k = 76 ∨ k = 83 then between n (-2048) 2047 else if k = 72 then between n 0 63 else if k = 87 then between n 0 31
  else if k = 66 then between n (-4096) 4094 && (n.tmod 2 == 0) else if k = 85 then between n (-524288) 524287
  else if k = 74 then between n (-1048576) 1048574 && (n.tmod 2 == 0) else (n == 0)
def register (there : Bool) (n : Int) : Bool := if there then between n 0 31 else (n == 0)
structure Ins where
  op : Int
  rd : Int
  rs1 : Int
  rs2 : Int
  imm : Int
def Ins.val (i : Ins) : Value := .agg #[.int .i64 i.op, .int .i64 i.rd, .int .i64 i.rs1, .int .i64 i.rs2, .int .i64 i.imm]
def right (i : Ins) : Bool :=
  decide (1 ≤ i.op) && decide (i.op ≤ 64) &&
    (register (has (row (i.op - 1).toNat).kind).1 i.rd && register (has (row (i.op - 1).toNat).kind).2.1 i.rs1
      && register (has (row (i.op - 1).toNat).kind).2.2 i.rs2 && fitsImm (row (i.op - 1).toNat).kind i.imm)
theorem right_succ (k : Nat) (rd rs1 rs2 imm : Int) (hk : k < 64) : right ⟨k + 1, rd, rs1, rs2, imm⟩ =
    (register (has (row k).kind).1 rd && register (has (row k).kind).2.1 rs1 && register (has (row k).kind).2.2 rs2 && fitsImm (row k).kind imm) := by
  unfold right
  have e : ((k : Int) + 1 - 1).toNat = k := by omega
  simp only [e]
  rw [decide_eq_true (by omega), decide_eq_true (by omega)]
  rfl
theorem right_out (i : Ins) (h : ¬ (1 ≤ i.op ∧ i.op ≤ 64)) : right i = false := by
  unfold right
  by_cases h1 : 1 ≤ i.op
  · rw [decide_eq_false (p := i.op ≤ 64) (by omega)]; simp
  · rw [decide_eq_false h1]; rfl
theorem and4a {a b c d : Bool} (ha : a = true) (hb : b = true) (hc : c = true) : (a && b && c && d) = d := by subst ha hb hc; rfl
theorem and4b {a b c d : Bool} (ha : a = true) (hb : b = true) (hc : ¬ c = true) : (a && b && c && d) = false := by cases c; (subst ha hb; rfl); exact absurd rfl hc
theorem and4c {a b c d : Bool} (ha : a = true) (hb : ¬ b = true) : (a && b && c && d) = false := by cases b; (subst ha; rfl); exact absurd rfl hb
theorem and4d {a b c d : Bool} (ha : ¬ a = true) : (a && b && c && d) = false := by cases a; rfl; exact absurd rfl ha
/-- the word, as the document's answer reckons it -/
def encBase (k : Nat) (rd rs1 rs2 : Int) : Int := (row k).opc + rd * 128 + rs1 * 32768 + rs2 * 1048576
def encF (k : Nat) (rd rs1 rs2 : Int) : Int := if (row k).kind ≠ 85 ∧ (row k).kind ≠ 74 then encBase k rd rs1 rs2 + (row k).f * 4096 else encBase k rd rs1 rs2
def encR (k : Nat) (rd rs1 rs2 n : Int) : Int :=
  if (row k).kind = 82 then encF k rd rs1 rs2 + (row k).g * 33554432
  else if (row k).kind = 73 ∨ (row k).kind = 76 then encF k rd rs1 rs2 + bitz n 11 0 * 1048576
  else if (row k).kind = 72 then encF k rd rs1 rs2 + n * 1048576 + (row k).g * 67108864
  else if (row k).kind = 87 then encF k rd rs1 rs2 + n * 1048576 + (row k).g * 33554432
  else if (row k).kind = 83 then encF k rd rs1 rs2 + bitz n 11 5 * 33554432 + bitz n 4 0 * 128
  else if (row k).kind = 66 then encF k rd rs1 rs2 + bitz n 12 12 * 2147483648 + bitz n 10 5 * 33554432 + bitz n 4 1 * 256 + bitz n 11 11 * 128
  else if (row k).kind = 85 then encF k rd rs1 rs2 + bitz n 19 0 * 4096
  else if (row k).kind = 74 then encF k rd rs1 rs2 + bitz n 20 20 * 2147483648 + bitz n 10 1 * 2097152 + bitz n 11 11 * 1048576 + bitz n 19 12 * 4096
  else if (row k).kind = 78 then encF k rd rs1 rs2 + (row k).g * 1048576
  else encF k rd rs1 rs2
theorem row_bd : ∀ k, k < 64 → (0 ≤ (row k).opc ∧ (row k).opc ≤ 127 ∧ 0 ≤ (row k).f ∧ (row k).f ≤ 7 ∧ 0 ≤ (row k).g ∧ (row k).g ≤ 32 ∧ (row k).kind < 256) := by decide
end Pn
namespace Pn
theorem kinds : ∀ k, k < 64 → ((row k).kind = 82 ∨ (row k).kind = 73 ∨ (row k).kind = 76 ∨ (row k).kind = 72 ∨ (row k).kind = 87 ∨ (row k).kind = 83 ∨ (row k).kind = 66 ∨ (row k).kind = 85 ∨ (row k).kind = 74 ∨ (row k).kind = 78) := by decide
theorem encR_R (k : Nat) (rd rs1 rs2 n : Int) (h : (row k).kind = 82) : encR k rd rs1 rs2 n = (row k).opc + rd * 128 + rs1 * 32768 + rs2 * 1048576 + (row k).f * 4096 + (row k).g * 33554432 := by
  simp [encR, encF, encBase, h]
theorem encR_I (k : Nat) (rd rs1 rs2 n : Int) (h : (row k).kind = 73) : encR k rd rs1 rs2 n = (row k).opc + rd * 128 + rs1 * 32768 + rs2 * 1048576 + (row k).f * 4096 + bitz n 11 0 * 1048576 := by
  simp [encR, encF, encBase, h]
theorem encR_L (k : Nat) (rd rs1 rs2 n : Int) (h : (row k).kind = 76) : encR k rd rs1 rs2 n = (row k).opc + rd * 128 + rs1 * 32768 + rs2 * 1048576 + (row k).f * 4096 + bitz n 11 0 * 1048576 := by
  simp [encR, encF, encBase, h]
theorem encR_H (k : Nat) (rd rs1 rs2 n : Int) (h : (row k).kind = 72) : encR k rd rs1 rs2 n = (row k).opc + rd * 128 + rs1 * 32768 + rs2 * 1048576 + (row k).f * 4096 + n * 1048576 + (row k).g * 67108864 := by
  simp [encR, encF, encBase, h]
theorem encR_W (k : Nat) (rd rs1 rs2 n : Int) (h : (row k).kind = 87) : encR k rd rs1 rs2 n = (row k).opc + rd * 128 + rs1 * 32768 + rs2 * 1048576 + (row k).f * 4096 + n * 1048576 + (row k).g * 33554432 := by
  simp [encR, encF, encBase, h]
theorem encR_S (k : Nat) (rd rs1 rs2 n : Int) (h : (row k).kind = 83) : encR k rd rs1 rs2 n = (row k).opc + rd * 128 + rs1 * 32768 + rs2 * 1048576 + (row k).f * 4096 + bitz n 11 5 * 33554432 + bitz n 4 0 * 128 := by
  simp [encR, encF, encBase, h]
theorem encR_B (k : Nat) (rd rs1 rs2 n : Int) (h : (row k).kind = 66) : encR k rd rs1 rs2 n = (row k).opc + rd * 128 + rs1 * 32768 + rs2 * 1048576 + (row k).f * 4096 + bitz n 12 12 * 2147483648 + bitz n 10 5 * 33554432 + bitz n 4 1 * 256 + bitz n 11 11 * 128 := by
  simp [encR, encF, encBase, h]
theorem encR_U (k : Nat) (rd rs1 rs2 n : Int) (h : (row k).kind = 85) : encR k rd rs1 rs2 n = (row k).opc + rd * 128 + rs1 * 32768 + rs2 * 1048576 + bitz n 19 0 * 4096 := by
  simp [encR, encF, encBase, h]
theorem encR_J (k : Nat) (rd rs1 rs2 n : Int) (h : (row k).kind = 74) : encR k rd rs1 rs2 n = (row k).opc + rd * 128 + rs1 * 32768 + rs2 * 1048576 + bitz n 20 20 * 2147483648 + bitz n 10 1 * 2097152 + bitz n 11 11 * 1048576 + bitz n 19 12 * 4096 := by
  simp [encR, encF, encBase, h]
theorem encR_N (k : Nat) (rd rs1 rs2 n : Int) (h : (row k).kind = 78) : encR k rd rs1 rs2 n = (row k).opc + rd * 128 + rs1 * 32768 + rs2 * 1048576 + (row k).f * 4096 + (row k).g * 1048576 := by
  simp [encR, encF, encBase, h]
theorem bz_11_0 (n : Int) : 0 ≤ bitz n 11 0 ∧ bitz n 11 0 ≤ 4095 := by
  have := bitz_bd n 11 0; exact ⟨this.1, by have h := this.2; simp at h; omega⟩
theorem bz_11_5 (n : Int) : 0 ≤ bitz n 11 5 ∧ bitz n 11 5 ≤ 127 := by
  have := bitz_bd n 11 5; exact ⟨this.1, by have h := this.2; simp at h; omega⟩
theorem bz_4_0 (n : Int) : 0 ≤ bitz n 4 0 ∧ bitz n 4 0 ≤ 31 := by
  have := bitz_bd n 4 0; exact ⟨this.1, by have h := this.2; simp at h; omega⟩
theorem bz_12_12 (n : Int) : 0 ≤ bitz n 12 12 ∧ bitz n 12 12 ≤ 1 := by
  have := bitz_bd n 12 12; exact ⟨this.1, by have h := this.2; simp at h; omega⟩
theorem bz_10_5 (n : Int) : 0 ≤ bitz n 10 5 ∧ bitz n 10 5 ≤ 63 := by
  have := bitz_bd n 10 5; exact ⟨this.1, by have h := this.2; simp at h; omega⟩
theorem bz_4_1 (n : Int) : 0 ≤ bitz n 4 1 ∧ bitz n 4 1 ≤ 15 := by
  have := bitz_bd n 4 1; exact ⟨this.1, by have h := this.2; simp at h; omega⟩
theorem bz_11_11 (n : Int) : 0 ≤ bitz n 11 11 ∧ bitz n 11 11 ≤ 1 := by
  have := bitz_bd n 11 11; exact ⟨this.1, by have h := this.2; simp at h; omega⟩
theorem bz_19_0 (n : Int) : 0 ≤ bitz n 19 0 ∧ bitz n 19 0 ≤ 1048575 := by
  have := bitz_bd n 19 0; exact ⟨this.1, by have h := this.2; simp at h; omega⟩
theorem bz_20_20 (n : Int) : 0 ≤ bitz n 20 20 ∧ bitz n 20 20 ≤ 1 := by
  have := bitz_bd n 20 20; exact ⟨this.1, by have h := this.2; simp at h; omega⟩
theorem bz_10_1 (n : Int) : 0 ≤ bitz n 10 1 ∧ bitz n 10 1 ≤ 1023 := by
  have := bitz_bd n 10 1; exact ⟨this.1, by have h := this.2; simp at h; omega⟩
theorem bz_19_12 (n : Int) : 0 ≤ bitz n 19 12 ∧ bitz n 19 12 ≤ 255 := by
  have := bitz_bd n 19 12; exact ⟨this.1, by have h := this.2; simp at h; omega⟩
theorem right_imm {k : Nat} {rd rs1 rs2 imm : Int} (hk : k < 64) (h : right ⟨k + 1, rd, rs1, rs2, imm⟩ = true) : fitsImm (row k).kind imm = true := by
  rw [right_succ _ _ _ _ _ hk] at h; simp at h; exact h.2
theorem right_immH {k : Nat} {rd rs1 rs2 imm : Int} (hk : k < 64) (h : right ⟨k + 1, rd, rs1, rs2, imm⟩ = true) (hd : (row k).kind = 72) : 0 ≤ imm ∧ imm ≤ 63 := by
  have := right_imm hk h; rw [hd] at this; simpa [fitsImm, between] using this
theorem right_immW {k : Nat} {rd rs1 rs2 imm : Int} (hk : k < 64) (h : right ⟨k + 1, rd, rs1, rs2, imm⟩ = true) (hd : (row k).kind = 87) : 0 ≤ imm ∧ imm ≤ 31 := by
  have := right_imm hk h; rw [hd] at this; simpa [fitsImm, between] using this
theorem reg_bd {t : Bool} {n : Int} (h : register t n = true) : 0 ≤ n ∧ n ≤ 31 := by
  cases t
  · simp [register] at h; omega
  · simpa [register, between] using h
theorem fits_bd {k : Nat} {n : Int} (h : fitsImm k n = true) : -1048576 ≤ n ∧ n ≤ 1048576 := by
  unfold fitsImm at h
  repeat' split at h
  all_goals (simp [between] at h; omega)
theorem right_bd {k : Nat} {rd rs1 rs2 imm : Int} (hk : k < 64) (h : right ⟨k + 1, rd, rs1, rs2, imm⟩ = true) :
    (0 ≤ rd ∧ rd ≤ 31) ∧ (0 ≤ rs1 ∧ rs1 ≤ 31) ∧ (0 ≤ rs2 ∧ rs2 ≤ 31) ∧ (-1048576 ≤ imm ∧ imm ≤ 1048576) := by
  rw [right_succ _ _ _ _ _ hk] at h
  simp at h
  obtain ⟨⟨⟨h1, h2⟩, h3⟩, h4⟩ := h
  exact ⟨reg_bd h1, reg_bd h2, reg_bd h3, fits_bd h4⟩
end Pn
namespace Pn
def enc (i : Ins) : Int × Int := if right i then (encR (i.op - 1).toNat i.rd i.rs1 i.rs2 i.imm, 0) else (0, 1)
theorem enc_not {i : Ins} (h : right i = false) : enc i = (0, 1) := by unfold enc; simp [h]
theorem enc_yes {k : Nat} {rd rs1 rs2 imm : Int} (h : right ⟨k + 1, rd, rs1, rs2, imm⟩ = true) : enc ⟨k + 1, rd, rs1, rs2, imm⟩ = (encR k rd rs1 rs2 imm, 0) := by
  unfold enc
  have e : ((k : Int) + 1 - 1).toNat = k := by omega
  simp only [h, if_true, e]
/-- signed, for the walk -/
def signd (n size : Int) : Int := if pow2 (size - 1) ≤ n then n - pow2 size else n
def decImm (kd : Nat) (w : Int) : Int :=
  if kd = 73 ∨ kd = 76 then signd (bitz w 31 20) 12 else if kd = 72 then bitz w 25 20 else if kd = 87 then bitz w 24 20
  else if kd = 83 then signd (bitz w 31 25 * 32 + bitz w 11 7) 12
  else if kd = 66 then signd (bitz w 31 31 * 4096 + bitz w 7 7 * 2048 + bitz w 30 25 * 32 + bitz w 11 8 * 2) 13
  else if kd = 85 then signd (bitz w 31 12) 20
  else if kd = 74 then signd (bitz w 31 31 * 1048576 + bitz w 19 12 * 4096 + bitz w 20 20 * 2048 + bitz w 30 21 * 2) 21 else 0
def decIns (k : Nat) (w : Int) : Ins :=
  ⟨k + 1, if (has (row k).kind).1 then bitz w 11 7 else 0, if (has (row k).kind).2.1 then bitz w 19 15 else 0, if (has (row k).kind).2.2 then bitz w 24 20 else 0, decImm (row k).kind w⟩
def decHit (w : Int) (k : Nat) : Bool := (bitz w 6 0 == (row k).opc) && ((enc (decIns k w)).2 == 0) && ((enc (decIns k w)).1 == w)
def dec (w : Int) : Ins × Int :=
  if w < 0 ∨ 4294967296 ≤ w then (⟨0, 0, 0, 0, 0⟩, 1)
  else match (List.range 64).find? (decHit w) with
    | some k => (decIns k w, 0)
    | none => (⟨0, 0, 0, 0, 0⟩, 1)
theorem find_range (p : Nat → Bool) (n k : Nat) (hk : k < n) (h : ∀ j, j < k → p j = false) (hp : p k = true) : (List.range n).find? p = some k := by
  rw [List.find?_range_eq_some]
  exact ⟨hp, by simpa using hk, fun j hj => by simp [h j hj]⟩
theorem find_none (p : Nat → Bool) (n : Nat) (h : ∀ j, j < n → p j = false) : (List.range n).find? p = none := by
  rw [List.find?_eq_none]; intro x hx; simp at hx; simp [h x hx]
theorem dec_hit {w : Int} {k : Nat} (h0 : 0 ≤ w) (h1 : w < 4294967296) (hk : k < 64) (h : ∀ j, j < k → decHit w j = false) (hp : decHit w k = true) : dec w = (decIns k w, 0) := by
  unfold dec; rw [if_neg (by omega), find_range _ _ _ hk h hp]
theorem dec_none {w : Int} (h0 : 0 ≤ w) (h1 : w < 4294967296) (h : ∀ j, j < 64 → decHit w j = false) : dec w = (⟨0, 0, 0, 0, 0⟩, 1) := by
  unfold dec; rw [if_neg (by omega), find_none _ _ h]
theorem dec_out {w : Int} (h : w < 0 ∨ 4294967296 ≤ w) : dec w = (⟨0, 0, 0, 0, 0⟩, 1) := by unfold dec; rw [if_pos h]
theorem bz_6_0 (n : Int) : 0 ≤ bitz n 6 0 ∧ bitz n 6 0 ≤ 127 := by
  have := bitz_bd n 6 0; exact ⟨this.1, by have h := this.2; simp at h; omega⟩
theorem bz_7_7 (n : Int) : 0 ≤ bitz n 7 7 ∧ bitz n 7 7 ≤ 1 := by
  have := bitz_bd n 7 7; exact ⟨this.1, by have h := this.2; simp at h; omega⟩
theorem bz_11_7 (n : Int) : 0 ≤ bitz n 11 7 ∧ bitz n 11 7 ≤ 31 := by
  have := bitz_bd n 11 7; exact ⟨this.1, by have h := this.2; simp at h; omega⟩
theorem bz_11_8 (n : Int) : 0 ≤ bitz n 11 8 ∧ bitz n 11 8 ≤ 15 := by
  have := bitz_bd n 11 8; exact ⟨this.1, by have h := this.2; simp at h; omega⟩
theorem bz_19_15 (n : Int) : 0 ≤ bitz n 19 15 ∧ bitz n 19 15 ≤ 31 := by
  have := bitz_bd n 19 15; exact ⟨this.1, by have h := this.2; simp at h; omega⟩
theorem bz_24_20 (n : Int) : 0 ≤ bitz n 24 20 ∧ bitz n 24 20 ≤ 31 := by
  have := bitz_bd n 24 20; exact ⟨this.1, by have h := this.2; simp at h; omega⟩
theorem bz_25_20 (n : Int) : 0 ≤ bitz n 25 20 ∧ bitz n 25 20 ≤ 63 := by
  have := bitz_bd n 25 20; exact ⟨this.1, by have h := this.2; simp at h; omega⟩
theorem bz_30_21 (n : Int) : 0 ≤ bitz n 30 21 ∧ bitz n 30 21 ≤ 1023 := by
  have := bitz_bd n 30 21; exact ⟨this.1, by have h := this.2; simp at h; omega⟩
theorem bz_30_25 (n : Int) : 0 ≤ bitz n 30 25 ∧ bitz n 30 25 ≤ 63 := by
  have := bitz_bd n 30 25; exact ⟨this.1, by have h := this.2; simp at h; omega⟩
theorem bz_31_12 (n : Int) : 0 ≤ bitz n 31 12 ∧ bitz n 31 12 ≤ 1048575 := by
  have := bitz_bd n 31 12; exact ⟨this.1, by have h := this.2; simp at h; omega⟩
theorem bz_31_20 (n : Int) : 0 ≤ bitz n 31 20 ∧ bitz n 31 20 ≤ 4095 := by
  have := bitz_bd n 31 20; exact ⟨this.1, by have h := this.2; simp at h; omega⟩
theorem bz_31_25 (n : Int) : 0 ≤ bitz n 31 25 ∧ bitz n 31 25 ≤ 127 := by
  have := bitz_bd n 31 25; exact ⟨this.1, by have h := this.2; simp at h; omega⟩
theorem bz_31_31 (n : Int) : 0 ≤ bitz n 31 31 ∧ bitz n 31 31 ≤ 1 := by
  have := bitz_bd n 31 31; exact ⟨this.1, by have h := this.2; simp at h; omega⟩
end Pn
namespace Pn
theorem decHit_op {n : Int} {k : Nat} (h : (bitz n 6 0 != (row k).opc) = true) : decHit n k = false := by
  have : (bitz n 6 0 == (row k).opc) = false := by simpa using h
  simp [decHit, this]
theorem decHit_yes {n : Int} {k : Nat} {I : Ins} {E : Int × Int} (h : (bitz n 6 0 != (row k).opc) = false) (hI : decIns k n = I) (hE : enc I = E) (q2 : (E.2 == 0) = true) (q1 : (E.1 == n) = true) : decHit n k = true := by
  have : (bitz n 6 0 == (row k).opc) = true := by simpa using h
  simp only [decHit, this, hI, hE, q1, q2, Bool.and_self]
theorem decHit_no {n : Int} {k : Nat} {I : Ins} {E : Int × Int} (hI : decIns k n = I) (hE : enc I = E) (q : (E.2 == 0) = false ∨ (E.1 == n) = false) : decHit n k = false := by
  simp only [decHit, hI, hE]
  rcases q with q | q
  · simp [q]
  · simp [q]
theorem no_succ {n : Int} {k : Nat} (h : ∀ j, j < k → decHit n j = false) (hk : decHit n k = false) : ∀ j, j < k + 1 → decHit n j = false := fun j hj => by
  by_cases e : j = k
  · rw [e]; exact hk
  · exact h j (by omega)
theorem decIns_R (k : Nat) (n : Int) (h : (row k).kind = 82) : decIns k n = ⟨k + 1, bitz n 11 7, bitz n 19 15, bitz n 24 20, 0⟩ := by
  simp [decIns, h, has, decImm]
theorem decIns_I (k : Nat) (n : Int) (h : (row k).kind = 73) : decIns k n = ⟨k + 1, bitz n 11 7, bitz n 19 15, 0, signd (bitz n 31 20) 12⟩ := by
  simp [decIns, h, has, decImm]
theorem decIns_L (k : Nat) (n : Int) (h : (row k).kind = 76) : decIns k n = ⟨k + 1, bitz n 11 7, bitz n 19 15, 0, signd (bitz n 31 20) 12⟩ := by
  simp [decIns, h, has, decImm]
theorem decIns_H (k : Nat) (n : Int) (h : (row k).kind = 72) : decIns k n = ⟨k + 1, bitz n 11 7, bitz n 19 15, 0, bitz n 25 20⟩ := by
  simp [decIns, h, has, decImm]
theorem decIns_W (k : Nat) (n : Int) (h : (row k).kind = 87) : decIns k n = ⟨k + 1, bitz n 11 7, bitz n 19 15, 0, bitz n 24 20⟩ := by
  simp [decIns, h, has, decImm]
theorem decIns_S (k : Nat) (n : Int) (h : (row k).kind = 83) : decIns k n = ⟨k + 1, 0, bitz n 19 15, bitz n 24 20, signd (bitz n 31 25 * 32 + bitz n 11 7) 12⟩ := by
  simp [decIns, h, has, decImm]
theorem decIns_B (k : Nat) (n : Int) (h : (row k).kind = 66) : decIns k n = ⟨k + 1, 0, bitz n 19 15, bitz n 24 20, signd (bitz n 31 31 * 4096 + bitz n 7 7 * 2048 + bitz n 30 25 * 32 + bitz n 11 8 * 2) 13⟩ := by
  simp [decIns, h, has, decImm]
theorem decIns_U (k : Nat) (n : Int) (h : (row k).kind = 85) : decIns k n = ⟨k + 1, bitz n 11 7, 0, 0, signd (bitz n 31 12) 20⟩ := by
  simp [decIns, h, has, decImm]
theorem decIns_J (k : Nat) (n : Int) (h : (row k).kind = 74) : decIns k n = ⟨k + 1, bitz n 11 7, 0, 0, signd (bitz n 31 31 * 1048576 + bitz n 19 12 * 4096 + bitz n 20 20 * 2048 + bitz n 30 21 * 2) 21⟩ := by
  simp [decIns, h, has, decImm]
theorem decIns_N (k : Nat) (n : Int) (h : (row k).kind = 78) : decIns k n = ⟨k + 1, 0, 0, 0, 0⟩ := by
  simp [decIns, h, has, decImm]
end Pn
