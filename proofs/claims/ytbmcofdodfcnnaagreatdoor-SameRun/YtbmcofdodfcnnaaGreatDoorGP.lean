import Derived.WalkKit
import Derived.Laws.BitsLemmas
import Derived.Deep.WholeRow
namespace Pn
theorem pow_mono {a b : Nat} (h : a ≤ b) : (2:Int) ^ a ≤ 2 ^ b := by
  have := Nat.pow_le_pow_right (n := 2) (by omega) h
  exact_mod_cast this
theorem pow_pos (a : Nat) : (0:Int) < 2 ^ a := Int.pow_pos (by omega)
theorem pow_succ' (a : Nat) : (2:Int) ^ (a+1) = 2 * 2 ^ a := by rw [Int.pow_succ]; omega
theorem pow_le62 {a : Nat} (h : a ≤ 62) : (2:Int) ^ a ≤ 4611686018427387904 := pow_mono h
def bits (n : Int) (hi lo : Nat) : Int := (n / 2 ^ lo) % 2 ^ (hi - lo + 1)
theorem bits_lo (n : Int) (hi lo : Nat) : 0 ≤ bits n hi lo := Int.emod_nonneg _ (by have := pow_pos (hi - lo + 1); omega)
theorem bits_hi (n : Int) (hi lo : Nat) : bits n hi lo < 2 ^ (hi - lo + 1) := Int.emod_lt_of_pos _ (pow_pos _)
def pow2 (i : Int) : Int := 2 ^ i.toNat
def bitz (n hi lo : Int) : Int := bits n hi.toNat lo.toNat
theorem bitz_bd (n hi lo : Int) : 0 ≤ bitz n hi lo ∧ bitz n hi lo < 2 ^ (hi.toNat - lo.toNat + 1) := ⟨bits_lo _ _ _, bits_hi _ _ _⟩
end Pn
namespace Pn
open Go
structure Row where
  name : List UInt8
  kind : Nat
  opc : Int
  f : Int
  g : Int
def rows : List Row := [
  ⟨[97, 100, 100], 82, 51, 0, 0⟩,
  ⟨[115, 117, 98], 82, 51, 0, 32⟩,
  ⟨[115, 108, 108], 82, 51, 1, 0⟩,
  ⟨[115, 108, 116], 82, 51, 2, 0⟩,
  ⟨[115, 108, 116, 117], 82, 51, 3, 0⟩,
  ⟨[120, 111, 114], 82, 51, 4, 0⟩,
  ⟨[115, 114, 108], 82, 51, 5, 0⟩,
  ⟨[115, 114, 97], 82, 51, 5, 32⟩,
  ⟨[111, 114], 82, 51, 6, 0⟩,
  ⟨[97, 110, 100], 82, 51, 7, 0⟩,
  ⟨[109, 117, 108], 82, 51, 0, 1⟩,
  ⟨[109, 117, 108, 104], 82, 51, 1, 1⟩,
  ⟨[109, 117, 108, 104, 115, 117], 82, 51, 2, 1⟩,
  ⟨[109, 117, 108, 104, 117], 82, 51, 3, 1⟩,
  ⟨[100, 105, 118], 82, 51, 4, 1⟩,
  ⟨[100, 105, 118, 117], 82, 51, 5, 1⟩,
  ⟨[114, 101, 109], 82, 51, 6, 1⟩,
  ⟨[114, 101, 109, 117], 82, 51, 7, 1⟩,
  ⟨[97, 100, 100, 119], 82, 59, 0, 0⟩,
  ⟨[115, 117, 98, 119], 82, 59, 0, 32⟩,
  ⟨[115, 108, 108, 119], 82, 59, 1, 0⟩,
  ⟨[115, 114, 108, 119], 82, 59, 5, 0⟩,
  ⟨[115, 114, 97, 119], 82, 59, 5, 32⟩,
  ⟨[109, 117, 108, 119], 82, 59, 0, 1⟩,
  ⟨[100, 105, 118, 119], 82, 59, 4, 1⟩,
  ⟨[100, 105, 118, 117, 119], 82, 59, 5, 1⟩,
  ⟨[114, 101, 109, 119], 82, 59, 6, 1⟩,
  ⟨[114, 101, 109, 117, 119], 82, 59, 7, 1⟩,
  ⟨[97, 100, 100, 105], 73, 19, 0, 0⟩,
  ⟨[115, 108, 116, 105], 73, 19, 2, 0⟩,
  ⟨[115, 108, 116, 105, 117], 73, 19, 3, 0⟩,
  ⟨[120, 111, 114, 105], 73, 19, 4, 0⟩,
  ⟨[111, 114, 105], 73, 19, 6, 0⟩,
  ⟨[97, 110, 100, 105], 73, 19, 7, 0⟩,
  ⟨[115, 108, 108, 105], 72, 19, 1, 0⟩,
  ⟨[115, 114, 108, 105], 72, 19, 5, 0⟩,
  ⟨[115, 114, 97, 105], 72, 19, 5, 16⟩,
  ⟨[97, 100, 100, 105, 119], 73, 27, 0, 0⟩,
  ⟨[115, 108, 108, 105, 119], 87, 27, 1, 0⟩,
  ⟨[115, 114, 108, 105, 119], 87, 27, 5, 0⟩,
  ⟨[115, 114, 97, 105, 119], 87, 27, 5, 32⟩,
  ⟨[108, 98], 76, 3, 0, 0⟩,
  ⟨[108, 104], 76, 3, 1, 0⟩,
  ⟨[108, 119], 76, 3, 2, 0⟩,
  ⟨[108, 100], 76, 3, 3, 0⟩,
  ⟨[108, 98, 117], 76, 3, 4, 0⟩,
  ⟨[108, 104, 117], 76, 3, 5, 0⟩,
  ⟨[108, 119, 117], 76, 3, 6, 0⟩,
  ⟨[106, 97, 108, 114], 76, 103, 0, 0⟩,
  ⟨[115, 98], 83, 35, 0, 0⟩,
  ⟨[115, 104], 83, 35, 1, 0⟩,
  ⟨[115, 119], 83, 35, 2, 0⟩,
  ⟨[115, 100], 83, 35, 3, 0⟩,
  ⟨[98, 101, 113], 66, 99, 0, 0⟩,
  ⟨[98, 110, 101], 66, 99, 1, 0⟩,
  ⟨[98, 108, 116], 66, 99, 4, 0⟩,
  ⟨[98, 103, 101], 66, 99, 5, 0⟩,
  ⟨[98, 108, 116, 117], 66, 99, 6, 0⟩,
  ⟨[98, 103, 101, 117], 66, 99, 7, 0⟩,
  ⟨[108, 117, 105], 85, 55, 0, 0⟩,
  ⟨[97, 117, 105, 112, 99], 85, 23, 0, 0⟩,
  ⟨[106, 97, 108], 74, 111, 0, 0⟩,
  ⟨[101, 99, 97, 108, 108], 78, 115, 0, 0⟩,
  ⟨[101, 98, 114, 101, 97, 107], 78, 115, 0, 1⟩]
def row (k : Nat) : Row := rows.getD k ⟨[], 0, 0, 0, 0⟩
theorem flat_get {α β : Type} (f : α → List β) (m : Nat) (hf : ∀ a, (f a).length = m) : ∀ (l : List α) (k j : Nat), j < m → k < l.length →
    (l.flatMap f)[m * k + j]? = (l[k]?.bind fun a => (f a)[j]?)
  | [], k, j, _, hk => by simp at hk
  | a :: l, 0, j, hj, _ => by simp [List.flatMap_cons, List.getElem?_append, hf, hj]
  | a :: l, k + 1, j, hj, hk => by
    have := flat_get f m hf l k j hj (by simpa using hk)
    rw [List.flatMap_cons, List.getElem?_append_right (by rw [hf, Nat.mul_succ]; omega), hf]
    have e : m * (k + 1) + j - m = m * k + j := by rw [Nat.mul_succ]; omega
    rw [e, this]; simp
end Pn
namespace Pn
open Go
def has (k : Nat) : Bool × Bool × Bool :=
  if k = 82 then (true, true, true) else if k = 83 ∨ k = 66 then (false, true, true) else if k = 85 ∨ k = 74 then (true, false, false)
  else if k = 78 then (false, false, false) else (true, true, false)
def between (n lo hi : Int) : Bool := decide (lo ≤ n) && decide (n ≤ hi)
def fitsImm (k : Nat) (n : Int) : Bool :=
  if k = 73 ∨ k = 76 ∨ k = 83 then between n (-2048) 2047 else if k = 72 then between n 0 63 else if k = 87 then between n 0 31
  else if k = 66 then between n (-4096) 4094 && (n.tmod 2 == 0) else if k = 85 then between n (-524288) 524287
  else if k = 74 then between n (-1048576) 1048574 && (n.tmod 2 == 0) else (n == 0)
def register (there : Bool) (n : Int) : Bool := if there then between n 0 31 else (n == 0)
structure Ins where
  op : Int
  rd : Int
  rs1 : Int
  rs2 : Int
  imm : Int
def Ins.val (i : Ins) : Value := .agg #[.int .i64 i.op, .int .i64 i.rd, .int .i64 i.rs1, .int .i64 i.rs2, .int .i64 i.imm]
def right (i : Ins) : Bool :=
  decide (1 ≤ i.op) && decide (i.op ≤ 64) &&
    (register (has (row (i.op - 1).toNat).kind).1 i.rd && register (has (row (i.op - 1).toNat).kind).2.1 i.rs1
      && register (has (row (i.op - 1).toNat).kind).2.2 i.rs2 && fitsImm (row (i.op - 1).toNat).kind i.imm)
theorem right_succ (k : Nat) (rd rs1 rs2 imm : Int) (hk : k < 64) : right ⟨k + 1, rd, rs1, rs2, imm⟩ =
    (register (has (row k).kind).1 rd && register (has (row k).kind).2.1 rs1 && register (has (row k).kind).2.2 rs2 && fitsImm (row k).kind imm) := by
  unfold right
  have e : ((k : Int) + 1 - 1).toNat = k := by omega
  simp only [e]
  rw [decide_eq_true (by omega), decide_eq_true (by omega)]
  rfl
theorem right_out (i : Ins) (h : ¬ (1 ≤ i.op ∧ i.op ≤ 64)) : right i = false := by
  unfold right
  by_cases h1 : 1 ≤ i.op
  · rw [decide_eq_false (p := i.op ≤ 64) (by omega)]; simp
  · rw [decide_eq_false h1]; rfl
theorem and4b {a b c d : Bool} (ha : a = true) (hb : b = true) (hc : ¬ c = true) : (a && b && c && d) = false := by cases c; (subst ha hb; rfl); exact absurd rfl hc
theorem and4c {a b c d : Bool} (ha : a = true) (hb : ¬ b = true) : (a && b && c && d) = false := by cases b; (subst ha; rfl); exact absurd rfl hb
theorem and4d {a b c d : Bool} (ha : ¬ a = true) : (a && b && c && d) = false := by cases a; rfl; exact absurd rfl ha
def encBase (k : Nat) (rd rs1 rs2 : Int) : Int := (row k).opc + rd * 128 + rs1 * 32768 + rs2 * 1048576
def encF (k : Nat) (rd rs1 rs2 : Int) : Int := if (row k).kind ≠ 85 ∧ (row k).kind ≠ 74 then encBase k rd rs1 rs2 + (row k).f * 4096 else encBase k rd rs1 rs2
def encR (k : Nat) (rd rs1 rs2 n : Int) : Int :=
  if (row k).kind = 82 then encF k rd rs1 rs2 + (row k).g * 33554432
  else if (row k).kind = 73 ∨ (row k).kind = 76 then encF k rd rs1 rs2 + bitz n 11 0 * 1048576
  else if (row k).kind = 72 then encF k rd rs1 rs2 + n * 1048576 + (row k).g * 67108864
  else if (row k).kind = 87 then encF k rd rs1 rs2 + n * 1048576 + (row k).g * 33554432
  else if (row k).kind = 83 then encF k rd rs1 rs2 + bitz n 11 5 * 33554432 + bitz n 4 0 * 128
  else if (row k).kind = 66 then encF k rd rs1 rs2 + bitz n 12 12 * 2147483648 + bitz n 10 5 * 33554432 + bitz n 4 1 * 256 + bitz n 11 11 * 128
  else if (row k).kind = 85 then encF k rd rs1 rs2 + bitz n 19 0 * 4096
  else if (row k).kind = 74 then encF k rd rs1 rs2 + bitz n 20 20 * 2147483648 + bitz n 10 1 * 2097152 + bitz n 11 11 * 1048576 + bitz n 19 12 * 4096
  else if (row k).kind = 78 then encF k rd rs1 rs2 + (row k).g * 1048576
  else encF k rd rs1 rs2
theorem row_bd : ∀ k, k < 64 → (0 ≤ (row k).opc ∧ (row k).opc ≤ 127 ∧ 0 ≤ (row k).f ∧ (row k).f ≤ 7 ∧ 0 ≤ (row k).g ∧ (row k).g ≤ 32 ∧ (row k).kind < 256) := by decide
end Pn
namespace Pn
theorem kinds : ∀ k, k < 64 → ((row k).kind = 82 ∨ (row k).kind = 73 ∨ (row k).kind = 76 ∨ (row k).kind = 72 ∨ (row k).kind = 87 ∨ (row k).kind = 83 ∨ (row k).kind = 66 ∨ (row k).kind = 85 ∨ (row k).kind = 74 ∨ (row k).kind = 78) := by decide
theorem encR_R (k : Nat) (rd rs1 rs2 n : Int) (h : (row k).kind = 82) : encR k rd rs1 rs2 n = (row k).opc + rd * 128 + rs1 * 32768 + rs2 * 1048576 + (row k).f * 4096 + (row k).g * 33554432 := by
  simp [encR, encF, encBase, h]
theorem encR_I (k : Nat) (rd rs1 rs2 n : Int) (h : (row k).kind = 73) : encR k rd rs1 rs2 n = (row k).opc + rd * 128 + rs1 * 32768 + rs2 * 1048576 + (row k).f * 4096 + bitz n 11 0 * 1048576 := by
  simp [encR, encF, encBase, h]
theorem encR_L (k : Nat) (rd rs1 rs2 n : Int) (h : (row k).kind = 76) : encR k rd rs1 rs2 n = (row k).opc + rd * 128 + rs1 * 32768 + rs2 * 1048576 + (row k).f * 4096 + bitz n 11 0 * 1048576 := by
  simp [encR, encF, encBase, h]
theorem encR_H (k : Nat) (rd rs1 rs2 n : Int) (h : (row k).kind = 72) : encR k rd rs1 rs2 n = (row k).opc + rd * 128 + rs1 * 32768 + rs2 * 1048576 + (row k).f * 4096 + n * 1048576 + (row k).g * 67108864 := by
  simp [encR, encF, encBase, h]
theorem encR_W (k : Nat) (rd rs1 rs2 n : Int) (h : (row k).kind = 87) : encR k rd rs1 rs2 n = (row k).opc + rd * 128 + rs1 * 32768 + rs2 * 1048576 + (row k).f * 4096 + n * 1048576 + (row k).g * 33554432 := by
  simp [encR, encF, encBase, h]
theorem encR_S (k : Nat) (rd rs1 rs2 n : Int) (h : (row k).kind = 83) : encR k rd rs1 rs2 n = (row k).opc + rd * 128 + rs1 * 32768 + rs2 * 1048576 + (row k).f * 4096 + bitz n 11 5 * 33554432 + bitz n 4 0 * 128 := by
  simp [encR, encF, encBase, h]
theorem encR_B (k : Nat) (rd rs1 rs2 n : Int) (h : (row k).kind = 66) : encR k rd rs1 rs2 n = (row k).opc + rd * 128 + rs1 * 32768 + rs2 * 1048576 + (row k).f * 4096 + bitz n 12 12 * 2147483648 + bitz n 10 5 * 33554432 + bitz n 4 1 * 256 + bitz n 11 11 * 128 := by
  simp [encR, encF, encBase, h]
theorem encR_U (k : Nat) (rd rs1 rs2 n : Int) (h : (row k).kind = 85) : encR k rd rs1 rs2 n = (row k).opc + rd * 128 + rs1 * 32768 + rs2 * 1048576 + bitz n 19 0 * 4096 := by
  simp [encR, encF, encBase, h]
theorem encR_J (k : Nat) (rd rs1 rs2 n : Int) (h : (row k).kind = 74) : encR k rd rs1 rs2 n = (row k).opc + rd * 128 + rs1 * 32768 + rs2 * 1048576 + bitz n 20 20 * 2147483648 + bitz n 10 1 * 2097152 + bitz n 11 11 * 1048576 + bitz n 19 12 * 4096 := by
  simp [encR, encF, encBase, h]
theorem encR_N (k : Nat) (rd rs1 rs2 n : Int) (h : (row k).kind = 78) : encR k rd rs1 rs2 n = (row k).opc + rd * 128 + rs1 * 32768 + rs2 * 1048576 + (row k).f * 4096 + (row k).g * 1048576 := by
  simp [encR, encF, encBase, h]
theorem bz_11_0 (n : Int) : 0 ≤ bitz n 11 0 ∧ bitz n 11 0 ≤ 4095 := by
  have := bitz_bd n 11 0; exact ⟨this.1, by have h := this.2; simp at h; omega⟩
theorem bz_11_5 (n : Int) : 0 ≤ bitz n 11 5 ∧ bitz n 11 5 ≤ 127 := by
  have := bitz_bd n 11 5; exact ⟨this.1, by have h := this.2; simp at h; omega⟩
theorem bz_4_0 (n : Int) : 0 ≤ bitz n 4 0 ∧ bitz n 4 0 ≤ 31 := by
  have := bitz_bd n 4 0; exact ⟨this.1, by have h := this.2; simp at h; omega⟩
theorem bz_12_12 (n : Int) : 0 ≤ bitz n 12 12 ∧ bitz n 12 12 ≤ 1 := by
  have := bitz_bd n 12 12; exact ⟨this.1, by have h := this.2; simp at h; omega⟩
theorem bz_10_5 (n : Int) : 0 ≤ bitz n 10 5 ∧ bitz n 10 5 ≤ 63 := by
  have := bitz_bd n 10 5; exact ⟨this.1, by have h := this.2; simp at h; omega⟩
theorem bz_4_1 (n : Int) : 0 ≤ bitz n 4 1 ∧ bitz n 4 1 ≤ 15 := by
  have := bitz_bd n 4 1; exact ⟨this.1, by have h := this.2; simp at h; omega⟩
theorem bz_11_11 (n : Int) : 0 ≤ bitz n 11 11 ∧ bitz n 11 11 ≤ 1 := by
  have := bitz_bd n 11 11; exact ⟨this.1, by have h := this.2; simp at h; omega⟩
theorem bz_19_0 (n : Int) : 0 ≤ bitz n 19 0 ∧ bitz n 19 0 ≤ 1048575 := by
  have := bitz_bd n 19 0; exact ⟨this.1, by have h := this.2; simp at h; omega⟩
theorem bz_20_20 (n : Int) : 0 ≤ bitz n 20 20 ∧ bitz n 20 20 ≤ 1 := by
  have := bitz_bd n 20 20; exact ⟨this.1, by have h := this.2; simp at h; omega⟩
theorem bz_10_1 (n : Int) : 0 ≤ bitz n 10 1 ∧ bitz n 10 1 ≤ 1023 := by
  have := bitz_bd n 10 1; exact ⟨this.1, by have h := this.2; simp at h; omega⟩
theorem bz_19_12 (n : Int) : 0 ≤ bitz n 19 12 ∧ bitz n 19 12 ≤ 255 := by
  have := bitz_bd n 19 12; exact ⟨this.1, by have h := this.2; simp at h; omega⟩
theorem right_imm {k : Nat} {rd rs1 rs2 imm : Int} (hk : k < 64) (h : right ⟨k + 1, rd, rs1, rs2, imm⟩ = true) : fitsImm (row k).kind imm = true := by
  rw [right_succ _ _ _ _ _ hk] at h; simp at h; exact h.2
theorem right_immH {k : Nat} {rd rs1 rs2 imm : Int} (hk : k < 64) (h : right ⟨k + 1, rd, rs1, rs2, imm⟩ = true) (hd : (row k).kind = 72) : 0 ≤ imm ∧ imm ≤ 63 := by
  have := right_imm hk h; rw [hd] at this; simpa [fitsImm, between] using this
theorem right_immW {k : Nat} {rd rs1 rs2 imm : Int} (hk : k < 64) (h : right ⟨k + 1, rd, rs1, rs2, imm⟩ = true) (hd : (row k).kind = 87) : 0 ≤ imm ∧ imm ≤ 31 := by
  have := right_imm hk h; rw [hd] at this; simpa [fitsImm, between] using this
theorem reg_bd {t : Bool} {n : Int} (h : register t n = true) : 0 ≤ n ∧ n ≤ 31 := by
  cases t
  · simp [register] at h; omega
  · simpa [register, between] using h
theorem fits_bd {k : Nat} {n : Int} (h : fitsImm k n = true) : -1048576 ≤ n ∧ n ≤ 1048576 := by
  unfold fitsImm at h
  repeat' split at h
  all_goals (simp [between] at h; omega)
theorem right_bd {k : Nat} {rd rs1 rs2 imm : Int} (hk : k < 64) (h : right ⟨k + 1, rd, rs1, rs2, imm⟩ = true) :
    (0 ≤ rd ∧ rd ≤ 31) ∧ (0 ≤ rs1 ∧ rs1 ≤ 31) ∧ (0 ≤ rs2 ∧ rs2 ≤ 31) ∧ (-1048576 ≤ imm ∧ imm ≤ 1048576) := by
  rw [right_succ _ _ _ _ _ hk] at h
  simp at h
  obtain ⟨⟨⟨h1, h2⟩, h3⟩, h4⟩ := h
  exact ⟨reg_bd h1, reg_bd h2, reg_bd h3, fits_bd h4⟩
end Pn
namespace Pn
def enc (i : Ins) : Int × Int := if right i then (encR (i.op - 1).toNat i.rd i.rs1 i.rs2 i.imm, 0) else (0, 1)
theorem enc_not {i : Ins} (h : right i = false) : enc i = (0, 1) := by unfold enc; simp [h]
theorem enc_yes {k : Nat} {rd rs1 rs2 imm : Int} (h : right ⟨k + 1, rd, rs1, rs2, imm⟩ = true) : enc ⟨k + 1, rd, rs1, rs2, imm⟩ = (encR k rd rs1 rs2 imm, 0) := by
  unfold enc
  have e : ((k : Int) + 1 - 1).toNat = k := by omega
  simp only [h, if_true, e]
def signd (n size : Int) : Int := if pow2 (size - 1) ≤ n then n - pow2 size else n
def decImm (kd : Nat) (w : Int) : Int :=
  if kd = 73 ∨ kd = 76 then signd (bitz w 31 20) 12 else if kd = 72 then bitz w 25 20 else if kd = 87 then bitz w 24 20
  else if kd = 83 then signd (bitz w 31 25 * 32 + bitz w 11 7) 12
  else if kd = 66 then signd (bitz w 31 31 * 4096 + bitz w 7 7 * 2048 + bitz w 30 25 * 32 + bitz w 11 8 * 2) 13
  else if kd = 85 then signd (bitz w 31 12) 20
  else if kd = 74 then signd (bitz w 31 31 * 1048576 + bitz w 19 12 * 4096 + bitz w 20 20 * 2048 + bitz w 30 21 * 2) 21 else 0
def decIns (k : Nat) (w : Int) : Ins :=
  ⟨k + 1, if (has (row k).kind).1 then bitz w 11 7 else 0, if (has (row k).kind).2.1 then bitz w 19 15 else 0, if (has (row k).kind).2.2 then bitz w 24 20 else 0, decImm (row k).kind w⟩
def decHit (w : Int) (k : Nat) : Bool := (bitz w 6 0 == (row k).opc) && ((enc (decIns k w)).2 == 0) && ((enc (decIns k w)).1 == w)
def dec (w : Int) : Ins × Int :=
  if w < 0 ∨ 4294967296 ≤ w then (⟨0, 0, 0, 0, 0⟩, 1)
  else match (List.range 64).find? (decHit w) with
    | some k => (decIns k w, 0)
    | none => (⟨0, 0, 0, 0, 0⟩, 1)
theorem find_range (p : Nat → Bool) (n k : Nat) (hk : k < n) (h : ∀ j, j < k → p j = false) (hp : p k = true) : (List.range n).find? p = some k := by
  rw [List.find?_range_eq_some]
  exact ⟨hp, by simpa using hk, fun j hj => by simp [h j hj]⟩
theorem find_none (p : Nat → Bool) (n : Nat) (h : ∀ j, j < n → p j = false) : (List.range n).find? p = none := by
  rw [List.find?_eq_none]; intro x hx; simp at hx; simp [h x hx]
theorem dec_hit {w : Int} {k : Nat} (h0 : 0 ≤ w) (h1 : w < 4294967296) (hk : k < 64) (h : ∀ j, j < k → decHit w j = false) (hp : decHit w k = true) : dec w = (decIns k w, 0) := by
  unfold dec; rw [if_neg (by omega), find_range _ _ _ hk h hp]
theorem dec_out {w : Int} (h : w < 0 ∨ 4294967296 ≤ w) : dec w = (⟨0, 0, 0, 0, 0⟩, 1) := by unfold dec; rw [if_pos h]
theorem bz_7_7 (n : Int) : 0 ≤ bitz n 7 7 ∧ bitz n 7 7 ≤ 1 := by
  have := bitz_bd n 7 7; exact ⟨this.1, by have h := this.2; simp at h; omega⟩
theorem bz_11_7 (n : Int) : 0 ≤ bitz n 11 7 ∧ bitz n 11 7 ≤ 31 := by
  have := bitz_bd n 11 7; exact ⟨this.1, by have h := this.2; simp at h; omega⟩
theorem bz_11_8 (n : Int) : 0 ≤ bitz n 11 8 ∧ bitz n 11 8 ≤ 15 := by
  have := bitz_bd n 11 8; exact ⟨this.1, by have h := this.2; simp at h; omega⟩
theorem bz_19_15 (n : Int) : 0 ≤ bitz n 19 15 ∧ bitz n 19 15 ≤ 31 := by
  have := bitz_bd n 19 15; exact ⟨this.1, by have h := this.2; simp at h; omega⟩
theorem bz_24_20 (n : Int) : 0 ≤ bitz n 24 20 ∧ bitz n 24 20 ≤ 31 := by
  have := bitz_bd n 24 20; exact ⟨this.1, by have h := this.2; simp at h; omega⟩
theorem bz_25_20 (n : Int) : 0 ≤ bitz n 25 20 ∧ bitz n 25 20 ≤ 63 := by
  have := bitz_bd n 25 20; exact ⟨this.1, by have h := this.2; simp at h; omega⟩
theorem bz_30_21 (n : Int) : 0 ≤ bitz n 30 21 ∧ bitz n 30 21 ≤ 1023 := by
  have := bitz_bd n 30 21; exact ⟨this.1, by have h := this.2; simp at h; omega⟩
theorem bz_30_25 (n : Int) : 0 ≤ bitz n 30 25 ∧ bitz n 30 25 ≤ 63 := by
  have := bitz_bd n 30 25; exact ⟨this.1, by have h := this.2; simp at h; omega⟩
theorem bz_31_12 (n : Int) : 0 ≤ bitz n 31 12 ∧ bitz n 31 12 ≤ 1048575 := by
  have := bitz_bd n 31 12; exact ⟨this.1, by have h := this.2; simp at h; omega⟩
theorem bz_31_20 (n : Int) : 0 ≤ bitz n 31 20 ∧ bitz n 31 20 ≤ 4095 := by
  have := bitz_bd n 31 20; exact ⟨this.1, by have h := this.2; simp at h; omega⟩
theorem bz_31_25 (n : Int) : 0 ≤ bitz n 31 25 ∧ bitz n 31 25 ≤ 127 := by
  have := bitz_bd n 31 25; exact ⟨this.1, by have h := this.2; simp at h; omega⟩
theorem bz_31_31 (n : Int) : 0 ≤ bitz n 31 31 ∧ bitz n 31 31 ≤ 1 := by
  have := bitz_bd n 31 31; exact ⟨this.1, by have h := this.2; simp at h; omega⟩
end Pn
namespace Pn
theorem decIns_R (k : Nat) (n : Int) (h : (row k).kind = 82) : decIns k n = ⟨k + 1, bitz n 11 7, bitz n 19 15, bitz n 24 20, 0⟩ := by
  simp [decIns, h, has, decImm]
theorem decIns_I (k : Nat) (n : Int) (h : (row k).kind = 73) : decIns k n = ⟨k + 1, bitz n 11 7, bitz n 19 15, 0, signd (bitz n 31 20) 12⟩ := by
  simp [decIns, h, has, decImm]
theorem decIns_L (k : Nat) (n : Int) (h : (row k).kind = 76) : decIns k n = ⟨k + 1, bitz n 11 7, bitz n 19 15, 0, signd (bitz n 31 20) 12⟩ := by
  simp [decIns, h, has, decImm]
theorem decIns_H (k : Nat) (n : Int) (h : (row k).kind = 72) : decIns k n = ⟨k + 1, bitz n 11 7, bitz n 19 15, 0, bitz n 25 20⟩ := by
  simp [decIns, h, has, decImm]
theorem decIns_W (k : Nat) (n : Int) (h : (row k).kind = 87) : decIns k n = ⟨k + 1, bitz n 11 7, bitz n 19 15, 0, bitz n 24 20⟩ := by
  simp [decIns, h, has, decImm]
theorem decIns_S (k : Nat) (n : Int) (h : (row k).kind = 83) : decIns k n = ⟨k + 1, 0, bitz n 19 15, bitz n 24 20, signd (bitz n 31 25 * 32 + bitz n 11 7) 12⟩ := by
  simp [decIns, h, has, decImm]
theorem decIns_B (k : Nat) (n : Int) (h : (row k).kind = 66) : decIns k n = ⟨k + 1, 0, bitz n 19 15, bitz n 24 20, signd (bitz n 31 31 * 4096 + bitz n 7 7 * 2048 + bitz n 30 25 * 32 + bitz n 11 8 * 2) 13⟩ := by
  simp [decIns, h, has, decImm]
theorem decIns_U (k : Nat) (n : Int) (h : (row k).kind = 85) : decIns k n = ⟨k + 1, bitz n 11 7, 0, 0, signd (bitz n 31 12) 20⟩ := by
  simp [decIns, h, has, decImm]
theorem decIns_J (k : Nat) (n : Int) (h : (row k).kind = 74) : decIns k n = ⟨k + 1, bitz n 11 7, 0, 0, signd (bitz n 31 31 * 1048576 + bitz n 19 12 * 4096 + bitz n 20 20 * 2048 + bitz n 30 21 * 2) 21⟩ := by
  simp [decIns, h, has, decImm]
theorem decIns_N (k : Nat) (n : Int) (h : (row k).kind = 78) : decIns k n = ⟨k + 1, 0, 0, 0, 0⟩ := by
  simp [decIns, h, has, decImm]
end Pn
namespace Pn
open Go
def orz (a b : Int) : Int := Go.bits .or .i64 a b
def andz (a b : Int) : Int := Go.bits .and .i64 a b
theorem wraps_i64 (n : Int) (h₀ : 0 ≤ n) (h₁ : n < 2 ^ 62) : IntKind.i64.wrap n = n := by rw [IntKind.wrap_i64]; omega
theorem orz_nat (a b : Nat) (ha : a < 2 ^ 62) (hb : b < 2 ^ 62) : orz a b = ((a ||| b : Nat) : Int) := (bits_nat .i64 62 (by decide) wraps_i64 a b ha hb).2
theorem andz_nat (a b : Nat) (ha : a < 2 ^ 62) (hb : b < 2 ^ 62) : andz a b = ((a &&& b : Nat) : Int) := (bits_nat .i64 62 (by decide) wraps_i64 a b ha hb).1
theorem andz_mask (x : Int) (i : Nat) (hi : i ≤ 60) : andz x (2 ^ i - 1) = x % 2 ^ i := by
  unfold andz
  have hpos : 0 < 2 ^ i := Nat.two_pow_pos i
  have hc : ((2 : Int) ^ i - 1) = ((2 ^ i - 1 : Nat) : Int) := by rw [Int.natCast_sub hpos]; simp
  have hle : 2 ^ i ≤ 2 ^ 60 := Nat.pow_le_pow_right (by decide) hi
  have hm : (2 ^ i - 1) % 2 ^ IntKind.i64.bits = 2 ^ i - 1 := Nat.mod_eq_of_lt (Nat.lt_of_lt_of_le (Nat.sub_lt hpos (by decide)) (Nat.le_trans hle (by decide)))
  rw [hc]
  simp only [Go.bits, BitVec.ofInt_natCast, BitVec.toNat_and, BitVec.toNat_ofNat, hm]
  rw [Nat.and_two_pow_sub_one_eq_mod, wraps_i64 _ (Int.natCast_nonneg _) ?_]
  · rw [BitVec.toNat_ofInt]
    show (((x % ((2 ^ 64 : Nat) : Int)).toNat % 2 ^ i : Nat) : Int) = _
    have e : (((x % ((2 ^ 64 : Nat) : Int)).toNat % 2 ^ i : Nat) : Int) = (x % ((2 ^ 64 : Nat) : Int)) % 2 ^ i := by
      rw [Int.natCast_emod, Int.toNat_of_nonneg (Int.emod_nonneg _ (by decide))]; simp
    rw [e]
    have d : ((2 : Int) ^ i) ∣ ((2 ^ 64 : Nat) : Int) := by
      have := Nat.pow_dvd_pow 2 (show i ≤ 64 by omega)
      have h2 := Int.natCast_dvd_natCast.2 this
      simpa using h2
    exact Int.emod_emod_of_dvd _ d
  · have h1 : (BitVec.ofInt IntKind.i64.bits x).toNat % 2 ^ i < 2 ^ i := Nat.mod_lt _ hpos
    have : (BitVec.ofInt IntKind.i64.bits x).toNat % 2 ^ i < 2 ^ 62 := Nat.lt_of_lt_of_le h1 (Nat.le_trans hle (by decide))
    exact_mod_cast this
theorem lor_split (i a b A B : Nat) (ha : a < 2 ^ i) (hb : b < 2 ^ i) : (a + 2 ^ i * A) ||| (b + 2 ^ i * B) = (a ||| b) + 2 ^ i * (A ||| B) := by
  apply Nat.eq_of_testBit_eq
  intro j
  rw [Nat.testBit_or, Nat.add_comm a, Nat.add_comm b, Nat.add_comm (a ||| b), Nat.testBit_two_pow_mul_add _ ha, Nat.testBit_two_pow_mul_add _ hb, Nat.testBit_two_pow_mul_add _ (Nat.or_lt_two_pow ha hb)]
  split
  · rw [Nat.testBit_or]
  · rw [Nat.testBit_or]
theorem land_split (i a b A B : Nat) (ha : a < 2 ^ i) (hb : b < 2 ^ i) : (a + 2 ^ i * A) &&& (b + 2 ^ i * B) = (a &&& b) + 2 ^ i * (A &&& B) := by
  apply Nat.eq_of_testBit_eq
  intro j
  rw [Nat.testBit_and, Nat.add_comm a, Nat.add_comm b, Nat.add_comm (a &&& b), Nat.testBit_two_pow_mul_add _ ha, Nat.testBit_two_pow_mul_add _ hb, Nat.testBit_two_pow_mul_add _ (Nat.and_lt_two_pow _ hb)]
  split
  · rw [Nat.testBit_and]
  · rw [Nat.testBit_and]
end Pn
namespace Pn
open Go
theorem or_field (a v i w : Nat) (hv : v < 2 ^ w) (ha : a / 2 ^ i % 2 ^ w = 0) : a ||| v * 2 ^ i = a + v * 2 ^ i := by
  have e1 : a = a % 2 ^ i + 2 ^ i * (a / 2 ^ i) := (Nat.mod_add_div a (2 ^ i)).symm
  have e2 : a / 2 ^ i = 0 + 2 ^ w * (a / 2 ^ i / 2 ^ w) := by
    have := Nat.mod_add_div (a / 2 ^ i) (2 ^ w)
    omega
  have e3 : v * 2 ^ i = 0 + 2 ^ i * (v + 2 ^ w * 0) := by rw [Nat.mul_comm]; simp
  have p1 : 0 < 2 ^ i := Nat.two_pow_pos i
  have p2 : 0 < 2 ^ w := Nat.two_pow_pos w
  have key : (a % 2 ^ i + 2 ^ i * (0 + 2 ^ w * (a / 2 ^ i / 2 ^ w))) ||| (0 + 2 ^ i * (v + 2 ^ w * 0)) = a % 2 ^ i + 2 ^ i * (v + 2 ^ w * (a / 2 ^ i / 2 ^ w)) := by
    rw [lor_split i _ _ _ _ (Nat.mod_lt _ p1) p1, lor_split w _ _ _ _ p2 hv]
    simp
  rw [← e3, ← e2, ← e1] at key
  rw [key, Nat.mul_add, Nat.mul_comm v]
  have : a = a % 2 ^ i + 2 ^ i * (2 ^ w * (a / 2 ^ i / 2 ^ w)) := by
    have e2' : 2 ^ w * (a / 2 ^ i / 2 ^ w) = a / 2 ^ i := by omega
    rw [e2']; exact e1
  omega
theorem orz_field (a v : Int) (i w : Nat) (p q : Int) (hp : p = 2 ^ i) (hq : q = 2 ^ w) (hiw : i + w ≤ 60) (a0 : 0 ≤ a) (a1 : a < 4611686018427387904) (v0 : 0 ≤ v) (v1 : v < q) (h : a / p % q = 0) : orz a (v * p) = a + v * p := by
  subst hp hq
  obtain ⟨a, rfl⟩ := Int.eq_ofNat_of_zero_le a0
  obtain ⟨v, rfl⟩ := Int.eq_ofNat_of_zero_le v0
  have h' : a / 2 ^ i % 2 ^ w = 0 := by exact_mod_cast h
  have v1' : v < 2 ^ w := by exact_mod_cast v1
  have e : ((v : Int) * 2 ^ i) = ((v * 2 ^ i : Nat) : Int) := by simp
  have hv : v * 2 ^ i < 2 ^ 62 := by
    have h1 : v * 2 ^ i < 2 ^ w * 2 ^ i := Nat.mul_lt_mul_of_pos_right v1' (Nat.two_pow_pos i)
    rw [← Nat.pow_add] at h1
    exact Nat.lt_of_lt_of_le h1 (Nat.pow_le_pow_right (by decide) (by omega))
  rw [e, orz_nat _ _ (by omega) hv, or_field a v i w v1' h']
  simp
theorem orz_comm_assoc (a b c : Int) (a0 : 0 ≤ a) (a1 : a < 4611686018427387904) (b0 : 0 ≤ b) (b1 : b < 4611686018427387904) (c0 : 0 ≤ c) (c1 : c < 4611686018427387904) : orz a (orz b c) = orz (orz a b) c := by
  obtain ⟨a, rfl⟩ := Int.eq_ofNat_of_zero_le a0
  obtain ⟨b, rfl⟩ := Int.eq_ofNat_of_zero_le b0
  obtain ⟨c, rfl⟩ := Int.eq_ofNat_of_zero_le c0
  have a' : a < 2 ^ 62 := by omega
  have b' : b < 2 ^ 62 := by omega
  have c' : c < 2 ^ 62 := by omega
  rw [orz_nat b c b' c', orz_nat a b a' b', orz_nat _ _ a' (Nat.or_lt_two_pow b' c'), orz_nat _ _ (Nat.or_lt_two_pow a' b') c', Nat.or_assoc]
theorem orz_bd (a b : Int) (j : Nat) (hj : j ≤ 62) (a0 : 0 ≤ a) (a1 : a < 2 ^ j) (b0 : 0 ≤ b) (b1 : b < 2 ^ j) : 0 ≤ orz a b ∧ orz a b < 2 ^ j := by
  obtain ⟨a, rfl⟩ := Int.eq_ofNat_of_zero_le a0
  obtain ⟨b, rfl⟩ := Int.eq_ofNat_of_zero_le b0
  have a' : a < 2 ^ j := by exact_mod_cast a1
  have b' : b < 2 ^ j := by exact_mod_cast b1
  have hle : 2 ^ j ≤ 2 ^ 62 := Nat.pow_le_pow_right (by decide) hj
  rw [orz_nat a b (by omega) (by omega)]
  have := Nat.or_lt_two_pow a' b'
  exact ⟨by omega, by exact_mod_cast this⟩
theorem orz_bd62 (a b : Int) (a0 : 0 ≤ a) (a1 : a < 4611686018427387904) (b0 : 0 ≤ b) (b1 : b < 4611686018427387904) : 0 ≤ orz a b ∧ orz a b < 4611686018427387904 := orz_bd a b 62 (by decide) a0 a1 b0 b1
theorem orz_zero (a : Int) (a0 : 0 ≤ a) (a1 : a < 4611686018427387904) : orz a 0 = a := by
  obtain ⟨a, rfl⟩ := Int.eq_ofNat_of_zero_le a0
  have := orz_nat a 0 (by omega) (by decide)
  simpa using this
theorem zero_orz (a : Int) (a0 : 0 ≤ a) (a1 : a < 4611686018427387904) : orz 0 a = a := by
  obtain ⟨a, rfl⟩ := Int.eq_ofNat_of_zero_le a0
  have := orz_nat 0 a (by decide) (by omega)
  simpa using this
theorem andz_split (a b : Int) (i : Nat) (p : Int) (hp : p = 2 ^ i) (a0 : 0 ≤ a) (a1 : a < 4611686018427387904) (b0 : 0 ≤ b) (b1 : b < 4611686018427387904) : andz a b = andz (a % p) (b % p) + p * andz (a / p) (b / p) := by
  subst hp
  obtain ⟨a, rfl⟩ := Int.eq_ofNat_of_zero_le a0
  obtain ⟨b, rfl⟩ := Int.eq_ofNat_of_zero_le b0
  have a' : a < 2 ^ 62 := by omega
  have b' : b < 2 ^ 62 := by omega
  have p1 : 0 < 2 ^ i := Nat.two_pow_pos i
  have key := land_split i (a % 2 ^ i) (b % 2 ^ i) (a / 2 ^ i) (b / 2 ^ i) (Nat.mod_lt _ p1) (Nat.mod_lt _ p1)
  rw [Nat.mod_add_div, Nat.mod_add_div] at key
  have e1 : ((a : Int) % 2 ^ i) = ((a % 2 ^ i : Nat) : Int) := by simp
  have e2 : ((b : Int) % 2 ^ i) = ((b % 2 ^ i : Nat) : Int) := by simp
  have e3 : ((a : Int) / 2 ^ i) = ((a / 2 ^ i : Nat) : Int) := by simp
  have e4 : ((b : Int) / 2 ^ i) = ((b / 2 ^ i : Nat) : Int) := by simp
  rw [e1, e2, e3, e4, andz_nat a b a' b', andz_nat _ _ (Nat.lt_of_le_of_lt (Nat.mod_le _ _) a') (Nat.lt_of_le_of_lt (Nat.mod_le _ _) b'),
    andz_nat _ _ (Nat.lt_of_le_of_lt (Nat.div_le_self _ _) a') (Nat.lt_of_le_of_lt (Nat.div_le_self _ _) b'), key]
  simp
theorem andz_zero (a : Int) (a0 : 0 ≤ a) (a1 : a < 4611686018427387904) : andz a 0 = 0 := by
  obtain ⟨a, rfl⟩ := Int.eq_ofNat_of_zero_le a0
  have := andz_nat a 0 (by omega) (by decide)
  simpa using this
end Pn
namespace Pn
open Go
theorem orz_3 (a b c d : Int) (a0 : 0 ≤ a) (a1 : a < 4611686018427387904) (b0 : 0 ≤ b) (b1 : b < 4611686018427387904) (c0 : 0 ≤ c) (c1 : c < 4611686018427387904) (d0 : 0 ≤ d) (d1 : d < 4611686018427387904) :
    orz a (orz (orz b c) d) = orz (orz (orz a b) c) d := by
  have h := orz_bd62 b c b0 b1 c0 c1
  rw [orz_comm_assoc a _ d a0 a1 h.1 h.2 d0 d1, orz_comm_assoc a b c a0 a1 b0 b1 c0 c1]
theorem orz_z1 (a b : Int) (b0 : 0 ≤ b) (b1 : b < 4611686018427387904) : orz a (orz 0 b) = orz a b := by rw [zero_orz b b0 b1]
theorem orz_z2 (a b c : Int) (a0 : 0 ≤ a) (a1 : a < 4611686018427387904) (b0 : 0 ≤ b) (b1 : b < 4611686018427387904) (c0 : 0 ≤ c) (c1 : c < 4611686018427387904) :
    orz a (orz (orz 0 b) c) = orz (orz a b) c := by
  rw [zero_orz b b0 b1, orz_comm_assoc a b c a0 a1 b0 b1 c0 c1]
theorem orz_z4 (a b c d e : Int) (a0 : 0 ≤ a) (a1 : a < 4611686018427387904) (b0 : 0 ≤ b) (b1 : b < 4611686018427387904) (c0 : 0 ≤ c) (c1 : c < 4611686018427387904) (d0 : 0 ≤ d) (d1 : d < 4611686018427387904) (e0 : 0 ≤ e) (e1 : e < 4611686018427387904) :
    orz a (orz (orz (orz (orz 0 b) c) d) e) = orz (orz (orz (orz a b) c) d) e := by
  have h := orz_bd62 b c b0 b1 c0 c1
  have h2 := orz_bd62 _ d h.1 h.2 d0 d1
  rw [zero_orz b b0 b1, orz_comm_assoc a _ e a0 a1 h2.1 h2.2 e0 e1, orz_3 a b c d a0 a1 b0 b1 c0 c1 d0 d1]
def fixw (opc f g gp : Int) : Int := orz (orz opc (f * 4096)) (g * gp)
def regw (rd rs1 rs2 : Int) : Int := orz (orz (rd * 128) (rs1 * 32768)) (rs2 * 1048576)
theorem enc_fr (opc f rd rs1 rs2 : Int) (o0 : 0 ≤ opc) (o1 : opc < 128) (f0 : 0 ≤ f) (f1 : f < 8) (d0 : 0 ≤ rd) (d1 : rd < 32) (s0 : 0 ≤ rs1) (s1 : rs1 < 32) (t0 : 0 ≤ rs2) (t1 : rs2 < 32) (g gp : Int) (g0 : 0 ≤ g * gp) (g1 : g * gp < 4611686018427387904) : orz (fixw opc f g gp) (regw rd rs1 rs2) = orz (orz (orz (orz (opc + f * 4096) (g * gp)) (rd * 128)) (rs1 * 32768)) (rs2 * 1048576) := by
  unfold fixw regw
  have e1 := orz_field opc f 12 3 4096 8 rfl rfl (by decide) (by omega) (by omega) (by omega) (by omega) (by omega)
  rw [e1]
  have h := orz_bd62 (opc + f * 4096) (g * gp) (by omega) (by omega) g0 g1
  rw [orz_3 _ _ _ _ h.1 h.2 (by omega) (by omega) (by omega) (by omega) (by omega) (by omega)]
theorem enc_fr0 (opc f rd rs1 rs2 : Int) (o0 : 0 ≤ opc) (o1 : opc < 128) (f0 : 0 ≤ f) (f1 : f < 8) (d0 : 0 ≤ rd) (d1 : rd < 32) (s0 : 0 ≤ rs1) (s1 : rs1 < 32) (t0 : 0 ≤ rs2) (t1 : rs2 < 32) : orz (fixw opc f 0 1) (regw rd rs1 rs2) = opc + f * 4096 + rd * 128 + rs1 * 32768 + rs2 * 1048576 := by
  rw [enc_fr opc f rd rs1 rs2 o0 o1 f0 f1 d0 d1 s0 s1 t0 t1 0 1 (by decide) (by decide), Int.zero_mul, orz_zero _ (by omega) (by omega),
    orz_field _ rd 7 5 128 32 rfl rfl (by decide) (by omega) (by omega) (by omega) (by omega) (by omega),
    orz_field _ rs1 15 5 32768 32 rfl rfl (by decide) (by omega) (by omega) (by omega) (by omega) (by omega),
    orz_field _ rs2 20 5 1048576 32 rfl rfl (by decide) (by omega) (by omega) (by omega) (by omega) (by omega)]
theorem enc_frg (opc f g rd rs1 rs2 : Int) (o0 : 0 ≤ opc) (o1 : opc < 128) (f0 : 0 ≤ f) (f1 : f < 8) (d0 : 0 ≤ rd) (d1 : rd < 32) (s0 : 0 ≤ rs1) (s1 : rs1 < 32) (t0 : 0 ≤ rs2) (t1 : rs2 < 32) (g0 : 0 ≤ g) (g1 : g < 128) : orz (fixw opc f g 33554432) (regw rd rs1 rs2) = opc + f * 4096 + g * 33554432 + rd * 128 + rs1 * 32768 + rs2 * 1048576 := by
  rw [enc_fr opc f rd rs1 rs2 o0 o1 f0 f1 d0 d1 s0 s1 t0 t1 g 33554432 (by omega) (by omega),
    orz_field _ g 25 7 33554432 128 rfl rfl (by decide) (by omega) (by omega) (by omega) (by omega) (by omega),
    orz_field _ rd 7 5 128 32 rfl rfl (by decide) (by omega) (by omega) (by omega) (by omega) (by omega),
    orz_field _ rs1 15 5 32768 32 rfl rfl (by decide) (by omega) (by omega) (by omega) (by omega) (by omega),
    orz_field _ rs2 20 5 1048576 32 rfl rfl (by decide) (by omega) (by omega) (by omega) (by omega) (by omega)]
theorem enc_frh (opc f g rd rs1 rs2 : Int) (o0 : 0 ≤ opc) (o1 : opc < 128) (f0 : 0 ≤ f) (f1 : f < 8) (d0 : 0 ≤ rd) (d1 : rd < 32) (s0 : 0 ≤ rs1) (s1 : rs1 < 32) (t0 : 0 ≤ rs2) (t1 : rs2 < 32) (g0 : 0 ≤ g) (g1 : g < 64) : orz (fixw opc f g 67108864) (regw rd rs1 rs2) = opc + f * 4096 + g * 67108864 + rd * 128 + rs1 * 32768 + rs2 * 1048576 := by
  rw [enc_fr opc f rd rs1 rs2 o0 o1 f0 f1 d0 d1 s0 s1 t0 t1 g 67108864 (by omega) (by omega),
    orz_field _ g 26 6 67108864 64 rfl rfl (by decide) (by omega) (by omega) (by omega) (by omega) (by omega),
    orz_field _ rd 7 5 128 32 rfl rfl (by decide) (by omega) (by omega) (by omega) (by omega) (by omega),
    orz_field _ rs1 15 5 32768 32 rfl rfl (by decide) (by omega) (by omega) (by omega) (by omega) (by omega),
    orz_field _ rs2 20 5 1048576 32 rfl rfl (by decide) (by omega) (by omega) (by omega) (by omega) (by omega)]
end Pn
namespace Pn
open Go
theorem andz_ones (x : Int) (i : Nat) (p : Int) (hp : p = 2 ^ i - 1) (hi : i ≤ 60) : andz x p = x % 2 ^ i := by subst hp; exact andz_mask x i hi
theorem and_7 (w : Int) : andz w 127 = w % 128 := andz_ones w 7 127 rfl (by decide)
theorem and_7_3 (w : Int) (h0 : 0 ≤ w) (h1 : w < 4294967296) : andz w 28799 = w % 128 + w / 4096 % 8 * 4096 := by
  rw [andz_split w 28799 7 128 rfl h0 (by omega) (by decide) (by decide), andz_split (w / 128) (28799 / 128) 5 32 rfl (by omega) (by omega) (by decide) (by decide)]
  have a : andz (w % 128) (28799 % 128) = w % 128 % 2 ^ 7 := andz_ones _ 7 _ (by decide) (by decide)
  have b : andz (w / 128 % 32) (28799 / 128 % 32) = 0 := andz_zero _ (by omega) (by omega)
  have c : andz (w / 128 / 32) (28799 / 128 / 32) = w / 128 / 32 % 2 ^ 3 := andz_ones _ 3 _ (by decide) (by decide)
  rw [a, b, c]; omega
theorem and_7_3_7 (w : Int) (h0 : 0 ≤ w) (h1 : w < 4294967296) : andz w 4261441663 = w % 128 + w / 4096 % 8 * 4096 + w / 33554432 * 33554432 := by
  rw [andz_split w 4261441663 15 32768 rfl h0 (by omega) (by decide) (by decide), andz_split (w / 32768) (4261441663 / 32768) 10 1024 rfl (by omega) (by omega) (by decide) (by decide)]
  have a : andz (w % 32768) (4261441663 % 32768) = w % 32768 % 128 + w % 32768 / 4096 % 8 * 4096 := and_7_3 _ (by omega) (by omega)
  have b : andz (w / 32768 % 1024) (4261441663 / 32768 % 1024) = 0 := andz_zero _ (by omega) (by omega)
  have c : andz (w / 32768 / 1024) (4261441663 / 32768 / 1024) = w / 32768 / 1024 % 2 ^ 7 := andz_ones _ 7 _ (by decide) (by decide)
  rw [a, b, c]; omega
theorem and_7_3_6 (w : Int) (h0 : 0 ≤ w) (h1 : w < 4294967296) : andz w 4227887231 = w % 128 + w / 4096 % 8 * 4096 + w / 67108864 * 67108864 := by
  rw [andz_split w 4227887231 15 32768 rfl h0 (by omega) (by decide) (by decide), andz_split (w / 32768) (4227887231 / 32768) 11 2048 rfl (by omega) (by omega) (by decide) (by decide)]
  have a : andz (w % 32768) (4227887231 % 32768) = w % 32768 % 128 + w % 32768 / 4096 % 8 * 4096 := and_7_3 _ (by omega) (by omega)
  have b : andz (w / 32768 % 2048) (4227887231 / 32768 % 2048) = 0 := andz_zero _ (by omega) (by omega)
  have c : andz (w / 32768 / 2048) (4227887231 / 32768 / 2048) = w / 32768 / 2048 % 2 ^ 6 := andz_ones _ 6 _ (by decide) (by decide)
  rw [a, b, c]; omega
theorem and_32 (w : Int) (h0 : 0 ≤ w) (h1 : w < 4294967296) : andz w 4294967295 = w := by
  rw [andz_ones w 32 4294967295 (by decide) (by decide)]; omega
theorem fixw_0 (opc f : Int) (o0 : 0 ≤ opc) (o1 : opc < 128) (f0 : 0 ≤ f) (f1 : f < 8) : fixw opc f 0 1 = opc + f * 4096 := by
  unfold fixw
  rw [orz_field opc f 12 3 4096 8 rfl rfl (by decide) (by omega) (by omega) (by omega) (by omega) (by omega), Int.zero_mul, orz_zero _ (by omega) (by omega)]
theorem fixw_g (opc f g : Int) (o0 : 0 ≤ opc) (o1 : opc < 128) (f0 : 0 ≤ f) (f1 : f < 8) (g0 : 0 ≤ g) (g1 : g < 128) : fixw opc f g 33554432 = opc + f * 4096 + g * 33554432 := by
  unfold fixw
  rw [orz_field opc f 12 3 4096 8 rfl rfl (by decide) (by omega) (by omega) (by omega) (by omega) (by omega), orz_field _ g 25 7 33554432 128 rfl rfl (by decide) (by omega) (by omega) (by omega) (by omega) (by omega)]
theorem fixw_h (opc f g : Int) (o0 : 0 ≤ opc) (o1 : opc < 128) (f0 : 0 ≤ f) (f1 : f < 8) (g0 : 0 ≤ g) (g1 : g < 64) : fixw opc f g 67108864 = opc + f * 4096 + g * 67108864 := by
  unfold fixw
  rw [orz_field opc f 12 3 4096 8 rfl rfl (by decide) (by omega) (by omega) (by omega) (by omega) (by omega), orz_field _ g 26 6 67108864 64 rfl rfl (by decide) (by omega) (by omega) (by omega) (by omega) (by omega)]
theorem fixw_n (opc g : Int) (o0 : 0 ≤ opc) (o1 : opc < 128) (g0 : 0 ≤ g) (g1 : g < 4096) : fixw opc 0 g 1048576 = opc + g * 1048576 := by
  unfold fixw
  rw [Int.zero_mul, orz_zero _ (by omega) (by omega), orz_field _ g 20 12 1048576 4096 rfl rfl (by decide) (by omega) (by omega) (by omega) (by omega) (by omega)]
def fixm (kd : Nat) : Int := if kd = 82 ∨ kd = 87 then 4261441663 else if kd = 72 then 4227887231 else if kd = 85 ∨ kd = 74 then 127 else if kd = 78 then 4294967295 else 28799
def gpos (kd : Nat) : Nat := if kd = 82 ∨ kd = 87 then 25 else if kd = 72 then 26 else if kd = 78 then 20 else 0
def fitsW (k : Nat) (w : Int) : Bool := decide ((row k).opc = andz w 127) && decide (andz w (fixm (row k).kind) = fixw (row k).opc (row k).f (row k).g (2 ^ gpos (row k).kind))
theorem row_g0 : ∀ k, k < 64 → (¬ ((row k).kind = 82 ∨ (row k).kind = 87 ∨ (row k).kind = 72 ∨ (row k).kind = 78) → (row k).g = 0) ∧ (((row k).kind = 85 ∨ (row k).kind = 74 ∨ (row k).kind = 78) → (row k).f = 0) := by decide
theorem be_6_0 (n : Int) : bitz n 6 0 = n % 128 := by simp [bitz, bits]
theorem be_11_7 (n : Int) : bitz n 11 7 = n / 128 % 32 := by simp [bitz, bits]
theorem be_19_15 (n : Int) : bitz n 19 15 = n / 32768 % 32 := by simp [bitz, bits]
theorem be_24_20 (n : Int) : bitz n 24 20 = n / 1048576 % 32 := by simp [bitz, bits]
theorem be_31_20 (n : Int) : bitz n 31 20 = n / 1048576 % 4096 := by simp [bitz, bits]
theorem be_25_20 (n : Int) : bitz n 25 20 = n / 1048576 % 64 := by simp [bitz, bits]
theorem be_31_25 (n : Int) : bitz n 31 25 = n / 33554432 % 128 := by simp [bitz, bits]
theorem be_11_0 (n : Int) : bitz n 11 0 = n % 4096 := by simp [bitz, bits]
theorem be_4_0 (n : Int) : bitz n 4 0 = n % 32 := by simp [bitz, bits]
theorem be_11_5 (n : Int) : bitz n 11 5 = n / 32 % 128 := by simp [bitz, bits]
theorem be_12_12 (n : Int) : bitz n 12 12 = n / 4096 % 2 := by simp [bitz, bits]
theorem be_10_5 (n : Int) : bitz n 10 5 = n / 32 % 64 := by simp [bitz, bits]
theorem be_4_1 (n : Int) : bitz n 4 1 = n / 2 % 16 := by simp [bitz, bits]
theorem be_11_11 (n : Int) : bitz n 11 11 = n / 2048 % 2 := by simp [bitz, bits]
theorem be_19_0 (n : Int) : bitz n 19 0 = n % 1048576 := by simp [bitz, bits]
theorem be_20_20 (n : Int) : bitz n 20 20 = n / 1048576 % 2 := by simp [bitz, bits]
theorem be_10_1 (n : Int) : bitz n 10 1 = n / 2 % 1024 := by simp [bitz, bits]
theorem be_19_12 (n : Int) : bitz n 19 12 = n / 4096 % 256 := by simp [bitz, bits]
theorem be_31_31 (n : Int) : bitz n 31 31 = n / 2147483648 % 2 := by simp [bitz, bits]
theorem be_7_7 (n : Int) : bitz n 7 7 = n / 128 % 2 := by simp [bitz, bits]
theorem be_30_25 (n : Int) : bitz n 30 25 = n / 33554432 % 64 := by simp [bitz, bits]
theorem be_11_8 (n : Int) : bitz n 11 8 = n / 256 % 16 := by simp [bitz, bits]
theorem be_31_12 (n : Int) : bitz n 31 12 = n / 4096 % 1048576 := by simp [bitz, bits]
theorem be_30_21 (n : Int) : bitz n 30 21 = n / 2097152 % 1024 := by simp [bitz, bits]
theorem be_5_0 (n : Int) : bitz n 5 0 = n % 64 := by simp [bitz, bits]
theorem sg_12 (x : Int) : (2048 ≤ x ∧ signd x 12 = x - 4096) ∨ (x < 2048 ∧ signd x 12 = x) := by
  by_cases h : 2048 ≤ x
  · left; exact ⟨h, by unfold signd; rw [if_pos (by simpa [pow2] using h)]; simp [pow2]⟩
  · right; exact ⟨by omega, by unfold signd; rw [if_neg (by simpa [pow2] using h)]⟩
theorem sg_13 (x : Int) : (4096 ≤ x ∧ signd x 13 = x - 8192) ∨ (x < 4096 ∧ signd x 13 = x) := by
  by_cases h : 4096 ≤ x
  · left; exact ⟨h, by unfold signd; rw [if_pos (by simpa [pow2] using h)]; simp [pow2]⟩
  · right; exact ⟨by omega, by unfold signd; rw [if_neg (by simpa [pow2] using h)]⟩
theorem sg_20 (x : Int) : (524288 ≤ x ∧ signd x 20 = x - 1048576) ∨ (x < 524288 ∧ signd x 20 = x) := by
  by_cases h : 524288 ≤ x
  · left; exact ⟨h, by unfold signd; rw [if_pos (by simpa [pow2] using h)]; simp [pow2]⟩
  · right; exact ⟨by omega, by unfold signd; rw [if_neg (by simpa [pow2] using h)]⟩
theorem sg_21 (x : Int) : (1048576 ≤ x ∧ signd x 21 = x - 2097152) ∨ (x < 1048576 ∧ signd x 21 = x) := by
  by_cases h : 1048576 ≤ x
  · left; exact ⟨h, by unfold signd; rw [if_pos (by simpa [pow2] using h)]; simp [pow2]⟩
  · right; exact ⟨by omega, by unfold signd; rw [if_neg (by simpa [pow2] using h)]⟩
theorem hit_enc {w : Int} {k : Nat} {I : Ins} {W : Int} (hI : decIns k w = I) (hE : enc I = (W, 0)) : decHit w k = (decide (bitz w 6 0 = (row k).opc) && decide (W = w)) := by
  unfold decHit; rw [hI, hE]; simp [Bool.beq_eq_decide_eq]
theorem dec_bool {p q r s : Prop} [Decidable p] [Decidable q] [Decidable r] [Decidable s] (h : (p ∧ q) ↔ (r ∧ s)) : (decide p && decide q) = (decide r && decide s) := by
  rw [← Bool.decide_and, ← Bool.decide_and]; exact decide_eq_decide.2 h
theorem imm_S {x a b : Int} (a0 : 0 ≤ a ∧ a ≤ 127) (b0 : 0 ≤ b ∧ b ≤ 31) (h : (2048 ≤ a * 32 + b ∧ x = a * 32 + b - 4096) ∨ (a * 32 + b < 2048 ∧ x = a * 32 + b)) : x / 32 % 128 = a ∧ x % 32 = b := by omega
theorem imm_B {x a b c d : Int} (a0 : 0 ≤ a ∧ a ≤ 1) (b0 : 0 ≤ b ∧ b ≤ 1) (c0 : 0 ≤ c ∧ c ≤ 63) (d0 : 0 ≤ d ∧ d ≤ 15) (h : (4096 ≤ a * 4096 + b * 2048 + c * 32 + d * 2 ∧ x = a * 4096 + b * 2048 + c * 32 + d * 2 - 8192) ∨ (a * 4096 + b * 2048 + c * 32 + d * 2 < 4096 ∧ x = a * 4096 + b * 2048 + c * 32 + d * 2)) :
    x / 4096 % 2 = a ∧ x / 32 % 64 = c ∧ x / 2 % 16 = d ∧ x / 2048 % 2 = b := ⟨by omega, by omega, by omega, by omega⟩
theorem imm_J {x a b c d : Int} (a0 : 0 ≤ a ∧ a ≤ 1) (b0 : 0 ≤ b ∧ b ≤ 255) (c0 : 0 ≤ c ∧ c ≤ 1) (d0 : 0 ≤ d ∧ d ≤ 1023) (h : (1048576 ≤ a * 1048576 + b * 4096 + c * 2048 + d * 2 ∧ x = a * 1048576 + b * 4096 + c * 2048 + d * 2 - 2097152) ∨ (a * 1048576 + b * 4096 + c * 2048 + d * 2 < 1048576 ∧ x = a * 1048576 + b * 4096 + c * 2048 + d * 2)) :
    x / 1048576 % 2 = a ∧ x / 2 % 1024 = d ∧ x / 2048 % 2 = c ∧ x / 4096 % 256 = b := ⟨by omega, by omega, by omega, by omega⟩
theorem dright_R (w : Int) (k : Nat) (hk : k < 64) (h : (row k).kind = 82) : right ⟨k + 1, bitz w 11 7, bitz w 19 15, bitz w 24 20, 0⟩ = true := by
  rw [right_succ _ _ _ _ _ hk, h]
  have := bz_11_7 w
  have := bz_19_15 w
  have := bz_24_20 w
  simp [has, register, between, fitsImm]; omega
theorem fits_R (w : Int) (k : Nat) (hk : k < 64) (h0 : 0 ≤ w) (h1 : w < 4294967296) (h : (row k).kind = 82) : fitsW k w = decHit w k := by
  have hb := row_bd k hk
  have hg := row_g0 k hk
  rw [h] at hg
  unfold fitsW
  rw [hit_enc (decIns_R k w h) (enc_yes (dright_R w k hk h)), encR_R _ _ _ _ _ h]
  apply dec_bool
  rw [h, show fixm 82 = 4261441663 from rfl, show gpos 82 = 25 from rfl, and_7, and_7_3_7 w h0 h1, show (2:Int) ^ 25 = 33554432 from rfl]
  rw [fixw_g _ _ _ (by omega) (by omega) (by omega) (by omega) (by omega) (by omega)]
  simp only [be_6_0, be_11_7, be_19_15, be_24_20] at *
  generalize (row k).opc = o at *; generalize (row k).f = f at *; generalize (row k).g = g at *
  clear hg h
  omega
theorem dright_I (w : Int) (k : Nat) (hk : k < 64) (h : (row k).kind = 73) : right ⟨k + 1, bitz w 11 7, bitz w 19 15, 0, signd (bitz w 31 20) 12⟩ = true := by
  rw [right_succ _ _ _ _ _ hk, h]
  have := bz_11_7 w
  have := bz_19_15 w
  have := bz_31_20 w
  have hs := sg_12 (bitz w 31 20)
  generalize hx : signd (bitz w 31 20) 12 = x at *
  simp [has, register, between, fitsImm]; omega
theorem fits_I (w : Int) (k : Nat) (hk : k < 64) (h0 : 0 ≤ w) (h1 : w < 4294967296) (h : (row k).kind = 73) : fitsW k w = decHit w k := by
  have hb := row_bd k hk
  have hg := row_g0 k hk
  rw [h] at hg
  unfold fitsW
  rw [hit_enc (decIns_I k w h) (enc_yes (dright_I w k hk h)), encR_I _ _ _ _ _ h]
  apply dec_bool
  have hs := sg_12 (bitz w 31 20)
  generalize hx : signd (bitz w 31 20) 12 = x at *
  rw [be_11_0 x]
  rw [h, show fixm 73 = 28799 from rfl, show gpos 73 = 0 from rfl, and_7, and_7_3 w h0 h1, show (2:Int) ^ 0 = 1 from rfl]
  have g0 : (row k).g = 0 := hg.1 (by decide)
  rw [g0]
  rw [fixw_0 _ _ (by omega) (by omega) (by omega) (by omega)]
  simp only [be_6_0, be_11_7, be_19_15, be_31_20] at *
  generalize (row k).opc = o at *; generalize (row k).f = f at *; generalize (row k).g = g at *
  clear hg h
  omega
theorem dright_L (w : Int) (k : Nat) (hk : k < 64) (h : (row k).kind = 76) : right ⟨k + 1, bitz w 11 7, bitz w 19 15, 0, signd (bitz w 31 20) 12⟩ = true := by
  rw [right_succ _ _ _ _ _ hk, h]
  have := bz_11_7 w
  have := bz_19_15 w
  have := bz_31_20 w
  have hs := sg_12 (bitz w 31 20)
  generalize hx : signd (bitz w 31 20) 12 = x at *
  simp [has, register, between, fitsImm]; omega
theorem fits_L (w : Int) (k : Nat) (hk : k < 64) (h0 : 0 ≤ w) (h1 : w < 4294967296) (h : (row k).kind = 76) : fitsW k w = decHit w k := by
  have hb := row_bd k hk
  have hg := row_g0 k hk
  rw [h] at hg
  unfold fitsW
  rw [hit_enc (decIns_L k w h) (enc_yes (dright_L w k hk h)), encR_L _ _ _ _ _ h]
  apply dec_bool
  have hs := sg_12 (bitz w 31 20)
  generalize hx : signd (bitz w 31 20) 12 = x at *
  rw [be_11_0 x]
  rw [h, show fixm 76 = 28799 from rfl, show gpos 76 = 0 from rfl, and_7, and_7_3 w h0 h1, show (2:Int) ^ 0 = 1 from rfl]
  have g0 : (row k).g = 0 := hg.1 (by decide)
  rw [g0]
  rw [fixw_0 _ _ (by omega) (by omega) (by omega) (by omega)]
  simp only [be_6_0, be_11_7, be_19_15, be_31_20] at *
  generalize (row k).opc = o at *; generalize (row k).f = f at *; generalize (row k).g = g at *
  clear hg h
  omega
theorem dright_H (w : Int) (k : Nat) (hk : k < 64) (h : (row k).kind = 72) : right ⟨k + 1, bitz w 11 7, bitz w 19 15, 0, bitz w 25 20⟩ = true := by
  rw [right_succ _ _ _ _ _ hk, h]
  have := bz_11_7 w
  have := bz_19_15 w
  have := bz_25_20 w
  simp [has, register, between, fitsImm]; omega
theorem fits_H (w : Int) (k : Nat) (hk : k < 64) (h0 : 0 ≤ w) (h1 : w < 4294967296) (h : (row k).kind = 72) : fitsW k w = decHit w k := by
  have hb := row_bd k hk
  have hg := row_g0 k hk
  rw [h] at hg
  unfold fitsW
  rw [hit_enc (decIns_H k w h) (enc_yes (dright_H w k hk h)), encR_H _ _ _ _ _ h]
  apply dec_bool
  rw [h, show fixm 72 = 4227887231 from rfl, show gpos 72 = 26 from rfl, and_7, and_7_3_6 w h0 h1, show (2:Int) ^ 26 = 67108864 from rfl]
  rw [fixw_h _ _ _ (by omega) (by omega) (by omega) (by omega) (by omega) (by omega)]
  simp only [be_6_0, be_11_7, be_19_15, be_25_20] at *
  generalize (row k).opc = o at *; generalize (row k).f = f at *; generalize (row k).g = g at *
  clear hg h
  omega
theorem dright_W (w : Int) (k : Nat) (hk : k < 64) (h : (row k).kind = 87) : right ⟨k + 1, bitz w 11 7, bitz w 19 15, 0, bitz w 24 20⟩ = true := by
  rw [right_succ _ _ _ _ _ hk, h]
  have := bz_11_7 w
  have := bz_19_15 w
  have := bz_24_20 w
  simp [has, register, between, fitsImm]; omega
theorem fits_W (w : Int) (k : Nat) (hk : k < 64) (h0 : 0 ≤ w) (h1 : w < 4294967296) (h : (row k).kind = 87) : fitsW k w = decHit w k := by
  have hb := row_bd k hk
  have hg := row_g0 k hk
  rw [h] at hg
  unfold fitsW
  rw [hit_enc (decIns_W k w h) (enc_yes (dright_W w k hk h)), encR_W _ _ _ _ _ h]
  apply dec_bool
  rw [h, show fixm 87 = 4261441663 from rfl, show gpos 87 = 25 from rfl, and_7, and_7_3_7 w h0 h1, show (2:Int) ^ 25 = 33554432 from rfl]
  rw [fixw_g _ _ _ (by omega) (by omega) (by omega) (by omega) (by omega) (by omega)]
  simp only [be_6_0, be_11_7, be_19_15, be_24_20] at *
  generalize (row k).opc = o at *; generalize (row k).f = f at *; generalize (row k).g = g at *
  clear hg h
  omega
theorem dright_S (w : Int) (k : Nat) (hk : k < 64) (h : (row k).kind = 83) : right ⟨k + 1, 0, bitz w 19 15, bitz w 24 20, signd (bitz w 31 25 * 32 + bitz w 11 7) 12⟩ = true := by
  rw [right_succ _ _ _ _ _ hk, h]
  have := bz_11_7 w
  have := bz_19_15 w
  have := bz_24_20 w
  have := bz_31_25 w
  have hs := sg_12 (bitz w 31 25 * 32 + bitz w 11 7)
  generalize hx : signd (bitz w 31 25 * 32 + bitz w 11 7) 12 = x at *
  simp [has, register, between, fitsImm]; omega
theorem fits_S (w : Int) (k : Nat) (hk : k < 64) (h0 : 0 ≤ w) (h1 : w < 4294967296) (h : (row k).kind = 83) : fitsW k w = decHit w k := by
  have hb := row_bd k hk
  have hg := row_g0 k hk
  rw [h] at hg
  unfold fitsW
  rw [hit_enc (decIns_S k w h) (enc_yes (dright_S w k hk h)), encR_S _ _ _ _ _ h]
  apply dec_bool
  have hs := sg_12 (bitz w 31 25 * 32 + bitz w 11 7)
  generalize hx : signd (bitz w 31 25 * 32 + bitz w 11 7) 12 = x at *
  obtain ⟨q1, q2⟩ := imm_S (bz_31_25 w) (bz_11_7 w) hs
  rw [be_11_5 x, be_4_0 x]
  rw [q1, q2]
  clear q1 q2 hs hx
  rw [h, show fixm 83 = 28799 from rfl, show gpos 83 = 0 from rfl, and_7, and_7_3 w h0 h1, show (2:Int) ^ 0 = 1 from rfl]
  have g0 : (row k).g = 0 := hg.1 (by decide)
  rw [g0]
  rw [fixw_0 _ _ (by omega) (by omega) (by omega) (by omega)]
  simp only [be_6_0, be_11_7, be_19_15, be_24_20, be_31_25] at *
  generalize (row k).opc = o at *; generalize (row k).f = f at *; generalize (row k).g = g at *
  clear hg h
  omega
theorem dright_B (w : Int) (k : Nat) (hk : k < 64) (h : (row k).kind = 66) : right ⟨k + 1, 0, bitz w 19 15, bitz w 24 20, signd (bitz w 31 31 * 4096 + bitz w 7 7 * 2048 + bitz w 30 25 * 32 + bitz w 11 8 * 2) 13⟩ = true := by
  rw [right_succ _ _ _ _ _ hk, h]
  have := bz_7_7 w
  have := bz_11_8 w
  have := bz_19_15 w
  have := bz_24_20 w
  have := bz_30_25 w
  have := bz_31_31 w
  have hs := sg_13 (bitz w 31 31 * 4096 + bitz w 7 7 * 2048 + bitz w 30 25 * 32 + bitz w 11 8 * 2)
  generalize hx : signd (bitz w 31 31 * 4096 + bitz w 7 7 * 2048 + bitz w 30 25 * 32 + bitz w 11 8 * 2) 13 = x at *
  have hm : x.tmod 2 = 0 := by rw [Int.tmod_eq_emod]; split <;> omega
  simp [has, register, between, fitsImm, hm]; omega
theorem fits_B (w : Int) (k : Nat) (hk : k < 64) (h0 : 0 ≤ w) (h1 : w < 4294967296) (h : (row k).kind = 66) : fitsW k w = decHit w k := by
  have hb := row_bd k hk
  have hg := row_g0 k hk
  rw [h] at hg
  unfold fitsW
  rw [hit_enc (decIns_B k w h) (enc_yes (dright_B w k hk h)), encR_B _ _ _ _ _ h]
  apply dec_bool
  have hs := sg_13 (bitz w 31 31 * 4096 + bitz w 7 7 * 2048 + bitz w 30 25 * 32 + bitz w 11 8 * 2)
  generalize hx : signd (bitz w 31 31 * 4096 + bitz w 7 7 * 2048 + bitz w 30 25 * 32 + bitz w 11 8 * 2) 13 = x at *
  obtain ⟨q1, q2, q3, q4⟩ := imm_B (bz_31_31 w) (bz_7_7 w) (bz_30_25 w) (bz_11_8 w) hs
  rw [be_12_12 x, be_10_5 x, be_4_1 x, be_11_11 x]
  rw [q1, q2, q3, q4]
  clear q1 q2 q3 q4 hs hx
  rw [h, show fixm 66 = 28799 from rfl, show gpos 66 = 0 from rfl, and_7, and_7_3 w h0 h1, show (2:Int) ^ 0 = 1 from rfl]
  have g0 : (row k).g = 0 := hg.1 (by decide)
  rw [g0]
  rw [fixw_0 _ _ (by omega) (by omega) (by omega) (by omega)]
  simp only [be_6_0, be_7_7, be_11_8, be_19_15, be_24_20, be_30_25, be_31_31] at *
  generalize (row k).opc = o at *; generalize (row k).f = f at *; generalize (row k).g = g at *
  clear hg h
  omega
theorem dright_U (w : Int) (k : Nat) (hk : k < 64) (h : (row k).kind = 85) : right ⟨k + 1, bitz w 11 7, 0, 0, signd (bitz w 31 12) 20⟩ = true := by
  rw [right_succ _ _ _ _ _ hk, h]
  have := bz_11_7 w
  have := bz_31_12 w
  have hs := sg_20 (bitz w 31 12)
  generalize hx : signd (bitz w 31 12) 20 = x at *
  simp [has, register, between, fitsImm]; omega
theorem fits_U (w : Int) (k : Nat) (hk : k < 64) (h0 : 0 ≤ w) (h1 : w < 4294967296) (h : (row k).kind = 85) : fitsW k w = decHit w k := by
  have hb := row_bd k hk
  have hg := row_g0 k hk
  rw [h] at hg
  unfold fitsW
  rw [hit_enc (decIns_U k w h) (enc_yes (dright_U w k hk h)), encR_U _ _ _ _ _ h]
  apply dec_bool
  have hs := sg_20 (bitz w 31 12)
  generalize hx : signd (bitz w 31 12) 20 = x at *
  rw [be_19_0 x]
  rw [h, show fixm 85 = 127 from rfl, show gpos 85 = 0 from rfl, and_7, show (2:Int) ^ 0 = 1 from rfl]
  have g0 : (row k).g = 0 := hg.1 (by decide)
  rw [g0]
  have f0 : (row k).f = 0 := hg.2 (by decide)
  rw [f0]
  rw [fixw_0 _ _ (by omega) (by omega) (by omega) (by omega)]
  simp only [be_6_0, be_11_7, be_31_12] at *
  generalize (row k).opc = o at *; generalize (row k).f = f at *; generalize (row k).g = g at *
  clear hg h
  omega
theorem dright_J (w : Int) (k : Nat) (hk : k < 64) (h : (row k).kind = 74) : right ⟨k + 1, bitz w 11 7, 0, 0, signd (bitz w 31 31 * 1048576 + bitz w 19 12 * 4096 + bitz w 20 20 * 2048 + bitz w 30 21 * 2) 21⟩ = true := by
  rw [right_succ _ _ _ _ _ hk, h]
  have := bz_11_7 w
  have := bz_19_12 w
  have := bz_20_20 w
  have := bz_30_21 w
  have := bz_31_31 w
  have hs := sg_21 (bitz w 31 31 * 1048576 + bitz w 19 12 * 4096 + bitz w 20 20 * 2048 + bitz w 30 21 * 2)
  generalize hx : signd (bitz w 31 31 * 1048576 + bitz w 19 12 * 4096 + bitz w 20 20 * 2048 + bitz w 30 21 * 2) 21 = x at *
  have hm : x.tmod 2 = 0 := by rw [Int.tmod_eq_emod]; split <;> omega
  simp [has, register, between, fitsImm, hm]; omega
theorem fits_J (w : Int) (k : Nat) (hk : k < 64) (h0 : 0 ≤ w) (h1 : w < 4294967296) (h : (row k).kind = 74) : fitsW k w = decHit w k := by
  have hb := row_bd k hk
  have hg := row_g0 k hk
  rw [h] at hg
  unfold fitsW
  rw [hit_enc (decIns_J k w h) (enc_yes (dright_J w k hk h)), encR_J _ _ _ _ _ h]
  apply dec_bool
  have hs := sg_21 (bitz w 31 31 * 1048576 + bitz w 19 12 * 4096 + bitz w 20 20 * 2048 + bitz w 30 21 * 2)
  generalize hx : signd (bitz w 31 31 * 1048576 + bitz w 19 12 * 4096 + bitz w 20 20 * 2048 + bitz w 30 21 * 2) 21 = x at *
  obtain ⟨q1, q2, q3, q4⟩ := imm_J (bz_31_31 w) (bz_19_12 w) (bz_20_20 w) (bz_30_21 w) hs
  rw [be_20_20 x, be_10_1 x, be_11_11 x, be_19_12 x]
  rw [q1, q2, q3, q4]
  clear q1 q2 q3 q4 hs hx
  rw [h, show fixm 74 = 127 from rfl, show gpos 74 = 0 from rfl, and_7, show (2:Int) ^ 0 = 1 from rfl]
  have g0 : (row k).g = 0 := hg.1 (by decide)
  rw [g0]
  have f0 : (row k).f = 0 := hg.2 (by decide)
  rw [f0]
  rw [fixw_0 _ _ (by omega) (by omega) (by omega) (by omega)]
  simp only [be_6_0, be_11_7, be_19_12, be_20_20, be_30_21, be_31_31] at *
  generalize (row k).opc = o at *; generalize (row k).f = f at *; generalize (row k).g = g at *
  clear hg h
  omega
theorem dright_N (_w : Int) (k : Nat) (hk : k < 64) (h : (row k).kind = 78) : right ⟨k + 1, 0, 0, 0, 0⟩ = true := by
  rw [right_succ _ _ _ _ _ hk, h]
  simp [has, register, fitsImm]
theorem fits_N (w : Int) (k : Nat) (hk : k < 64) (h0 : 0 ≤ w) (h1 : w < 4294967296) (h : (row k).kind = 78) : fitsW k w = decHit w k := by
  have hb := row_bd k hk
  have hg := row_g0 k hk
  rw [h] at hg
  unfold fitsW
  rw [hit_enc (decIns_N k w h) (enc_yes (dright_N w k hk h)), encR_N _ _ _ _ _ h]
  apply dec_bool
  rw [h, show fixm 78 = 4294967295 from rfl, show gpos 78 = 20 from rfl, and_7, and_32 w h0 h1, show (2:Int) ^ 20 = 1048576 from rfl]
  have f0 : (row k).f = 0 := hg.2 (by decide)
  rw [f0]
  rw [fixw_n _ _ (by omega) (by omega) (by omega) (by omega)]
  simp only [be_6_0] at *
  generalize (row k).opc = o at *; generalize (row k).f = f at *; generalize (row k).g = g at *
  clear hg h
  omega
theorem fits_hit (w : Int) (k : Nat) (hk : k < 64) (h0 : 0 ≤ w) (h1 : w < 4294967296) : fitsW k w = decHit w k := by
  rcases kinds k hk with h | h | h | h | h | h | h | h | h | h
  · exact fits_R w k hk h0 h1 h
  · exact fits_I w k hk h0 h1 h
  · exact fits_L w k hk h0 h1 h
  · exact fits_H w k hk h0 h1 h
  · exact fits_W w k hk h0 h1 h
  · exact fits_S w k hk h0 h1 h
  · exact fits_B w k hk h0 h1 h
  · exact fits_U w k hk h0 h1 h
  · exact fits_J w k hk h0 h1 h
  · exact fits_N w k hk h0 h1 h
end Pn
namespace Pn
open Go
def pieces (kd : Nat) : List (Int × Int × Int) :=
  if kd = 73 ∨ kd = 76 then [(0, 12, 20)] else if kd = 72 then [(0, 6, 20)] else if kd = 87 then [(0, 5, 20)] else if kd = 83 then [(5, 7, 25), (0, 5, 7)]
  else if kd = 66 then [(12, 1, 31), (5, 6, 25), (1, 4, 8), (11, 1, 7)] else if kd = 85 then [(0, 20, 12)] else if kd = 74 then [(20, 1, 31), (1, 10, 21), (11, 1, 20), (12, 8, 12)] else []
def immw (n : Int) (ps : List (Int × Int × Int)) (a : Int) : Int := ps.foldl (fun a p => orz a (bitz n (p.1 + p.2.1 - 1) p.1 * 2 ^ p.2.2.toNat)) a
def immo (w : Int) (ps : List (Int × Int × Int)) (a : Int) : Int := ps.foldl (fun a p => orz a (bitz w (p.2.2 + p.2.1 - 1) p.2.2 * 2 ^ p.1.toNat)) a
def least (kd : Nat) : Int := if kd = 73 ∨ kd = 76 ∨ kd = 83 then -2048 else if kd = 66 then -4096 else if kd = 85 then -524288 else if kd = 74 then -1048576 else 0
def most (kd : Nat) : Int := if kd = 73 ∨ kd = 76 ∨ kd = 83 then 2047 else if kd = 72 then 63 else if kd = 87 then 31 else if kd = 66 then 4094 else if kd = 85 then 524287 else if kd = 74 then 1048574 else 0
def evenK (kd : Nat) : Bool := decide (kd = 66 ∨ kd = 74)
theorem be_5_0' (n : Int) : 0 ≤ bitz n 5 0 ∧ bitz n 5 0 ≤ 63 := by rw [be_5_0]; omega
theorem enc_isa_R {k : Nat} {rd rs1 rs2 imm : Int} (hk : k < 64) (hr : right ⟨k + 1, rd, rs1, rs2, imm⟩ = true) (h : (row k).kind = 82) :
    orz (orz (fixw (row k).opc (row k).f (row k).g (2 ^ gpos (row k).kind)) (regw rd rs1 rs2)) (immw imm (pieces (row k).kind) 0) = encR k rd rs1 rs2 imm := by
  obtain ⟨⟨d0, d1⟩, ⟨s0, s1⟩, ⟨t0, t1⟩, i0, i1⟩ := right_bd hk hr
  have hb := row_bd k hk
  have hg := row_g0 k hk
  rw [h] at hg
  have hz := hr
  rw [right_succ _ _ _ _ _ hk, h] at hz
  simp [has, register, between, fitsImm] at hz
  rw [encR_R _ _ _ _ _ h, h, show gpos 82 = 25 from rfl, show (2:Int) ^ 25 = 33554432 from rfl]
  have e : immw imm (pieces 82) 0 = 0 := rfl
  rw [e]
  rw [enc_frg (row k).opc (row k).f (row k).g rd rs1 rs2 (by omega) (by omega) (by omega) (by omega) (by omega) (by omega) (by omega) (by omega) (by omega) (by omega) (by omega) (by omega)]
  rw [orz_zero _ (by omega) (by omega)]
  omega
theorem enc_isa_I {k : Nat} {rd rs1 rs2 imm : Int} (hk : k < 64) (hr : right ⟨k + 1, rd, rs1, rs2, imm⟩ = true) (h : (row k).kind = 73) :
    orz (orz (fixw (row k).opc (row k).f (row k).g (2 ^ gpos (row k).kind)) (regw rd rs1 rs2)) (immw imm (pieces (row k).kind) 0) = encR k rd rs1 rs2 imm := by
  obtain ⟨⟨d0, d1⟩, ⟨s0, s1⟩, ⟨t0, t1⟩, i0, i1⟩ := right_bd hk hr
  have hb := row_bd k hk
  have hg := row_g0 k hk
  rw [h] at hg
  have hz := hr
  rw [right_succ _ _ _ _ _ hk, h] at hz
  simp [has, register, between, fitsImm] at hz
  rw [encR_I _ _ _ _ _ h, h, show gpos 73 = 0 from rfl, show (2:Int) ^ 0 = 1 from rfl]
  have e : immw imm (pieces 73) 0 = orz (0) (bitz imm 11 0 * 1048576) := rfl
  rw [e]
  have b11_0 := bz_11_0 imm
  have g0 : (row k).g = 0 := hg.1 (by decide)
  rw [g0]
  rw [enc_fr0 (row k).opc (row k).f rd rs1 rs2 (by omega) (by omega) (by omega) (by omega) (by omega) (by omega) (by omega) (by omega) (by omega) (by omega)]
  rw [orz_z1 _ _ (by omega) (by omega)]
  rw [orz_field _ (bitz imm 11 0) 20 12 1048576 4096 rfl rfl (by decide) (by omega) (by omega) (by omega) (by omega) (by omega)]
  omega
theorem enc_isa_L {k : Nat} {rd rs1 rs2 imm : Int} (hk : k < 64) (hr : right ⟨k + 1, rd, rs1, rs2, imm⟩ = true) (h : (row k).kind = 76) :
    orz (orz (fixw (row k).opc (row k).f (row k).g (2 ^ gpos (row k).kind)) (regw rd rs1 rs2)) (immw imm (pieces (row k).kind) 0) = encR k rd rs1 rs2 imm := by
  obtain ⟨⟨d0, d1⟩, ⟨s0, s1⟩, ⟨t0, t1⟩, i0, i1⟩ := right_bd hk hr
  have hb := row_bd k hk
  have hg := row_g0 k hk
  rw [h] at hg
  have hz := hr
  rw [right_succ _ _ _ _ _ hk, h] at hz
  simp [has, register, between, fitsImm] at hz
  rw [encR_L _ _ _ _ _ h, h, show gpos 76 = 0 from rfl, show (2:Int) ^ 0 = 1 from rfl]
  have e : immw imm (pieces 76) 0 = orz (0) (bitz imm 11 0 * 1048576) := rfl
  rw [e]
  have b11_0 := bz_11_0 imm
  have g0 : (row k).g = 0 := hg.1 (by decide)
  rw [g0]
  rw [enc_fr0 (row k).opc (row k).f rd rs1 rs2 (by omega) (by omega) (by omega) (by omega) (by omega) (by omega) (by omega) (by omega) (by omega) (by omega)]
  rw [orz_z1 _ _ (by omega) (by omega)]
  rw [orz_field _ (bitz imm 11 0) 20 12 1048576 4096 rfl rfl (by decide) (by omega) (by omega) (by omega) (by omega) (by omega)]
  omega
theorem enc_isa_H {k : Nat} {rd rs1 rs2 imm : Int} (hk : k < 64) (hr : right ⟨k + 1, rd, rs1, rs2, imm⟩ = true) (h : (row k).kind = 72) :
    orz (orz (fixw (row k).opc (row k).f (row k).g (2 ^ gpos (row k).kind)) (regw rd rs1 rs2)) (immw imm (pieces (row k).kind) 0) = encR k rd rs1 rs2 imm := by
  obtain ⟨⟨d0, d1⟩, ⟨s0, s1⟩, ⟨t0, t1⟩, i0, i1⟩ := right_bd hk hr
  have hb := row_bd k hk
  have hg := row_g0 k hk
  rw [h] at hg
  have hz := hr
  rw [right_succ _ _ _ _ _ hk, h] at hz
  simp [has, register, between, fitsImm] at hz
  have hi := right_immH hk hr h
  rw [encR_H _ _ _ _ _ h, h, show gpos 72 = 26 from rfl, show (2:Int) ^ 26 = 67108864 from rfl]
  have e : immw imm (pieces 72) 0 = orz (0) (bitz imm 5 0 * 1048576) := rfl
  rw [e]
  have b5_0 := be_5_0' imm
  rw [enc_frh (row k).opc (row k).f (row k).g rd rs1 rs2 (by omega) (by omega) (by omega) (by omega) (by omega) (by omega) (by omega) (by omega) (by omega) (by omega) (by omega) (by omega)]
  rw [orz_z1 _ _ (by omega) (by omega)]
  rw [orz_field _ (bitz imm 5 0) 20 6 1048576 64 rfl rfl (by decide) (by omega) (by omega) (by omega) (by omega) (by omega)]
  rw [be_5_0] at *
  omega
theorem enc_isa_W {k : Nat} {rd rs1 rs2 imm : Int} (hk : k < 64) (hr : right ⟨k + 1, rd, rs1, rs2, imm⟩ = true) (h : (row k).kind = 87) :
    orz (orz (fixw (row k).opc (row k).f (row k).g (2 ^ gpos (row k).kind)) (regw rd rs1 rs2)) (immw imm (pieces (row k).kind) 0) = encR k rd rs1 rs2 imm := by
  obtain ⟨⟨d0, d1⟩, ⟨s0, s1⟩, ⟨t0, t1⟩, i0, i1⟩ := right_bd hk hr
  have hb := row_bd k hk
  have hg := row_g0 k hk
  rw [h] at hg
  have hz := hr
  rw [right_succ _ _ _ _ _ hk, h] at hz
  simp [has, register, between, fitsImm] at hz
  have hi := right_immW hk hr h
  rw [encR_W _ _ _ _ _ h, h, show gpos 87 = 25 from rfl, show (2:Int) ^ 25 = 33554432 from rfl]
  have e : immw imm (pieces 87) 0 = orz (0) (bitz imm 4 0 * 1048576) := rfl
  rw [e]
  have b4_0 := bz_4_0 imm
  rw [enc_frg (row k).opc (row k).f (row k).g rd rs1 rs2 (by omega) (by omega) (by omega) (by omega) (by omega) (by omega) (by omega) (by omega) (by omega) (by omega) (by omega) (by omega)]
  rw [orz_z1 _ _ (by omega) (by omega)]
  rw [orz_field _ (bitz imm 4 0) 20 5 1048576 32 rfl rfl (by decide) (by omega) (by omega) (by omega) (by omega) (by omega)]
  rw [be_4_0] at *
  omega
theorem enc_isa_S {k : Nat} {rd rs1 rs2 imm : Int} (hk : k < 64) (hr : right ⟨k + 1, rd, rs1, rs2, imm⟩ = true) (h : (row k).kind = 83) :
    orz (orz (fixw (row k).opc (row k).f (row k).g (2 ^ gpos (row k).kind)) (regw rd rs1 rs2)) (immw imm (pieces (row k).kind) 0) = encR k rd rs1 rs2 imm := by
  obtain ⟨⟨d0, d1⟩, ⟨s0, s1⟩, ⟨t0, t1⟩, i0, i1⟩ := right_bd hk hr
  have hb := row_bd k hk
  have hg := row_g0 k hk
  rw [h] at hg
  have hz := hr
  rw [right_succ _ _ _ _ _ hk, h] at hz
  simp [has, register, between, fitsImm] at hz
  rw [encR_S _ _ _ _ _ h, h, show gpos 83 = 0 from rfl, show (2:Int) ^ 0 = 1 from rfl]
  have e : immw imm (pieces 83) 0 = orz (orz (0) (bitz imm 11 5 * 33554432)) (bitz imm 4 0 * 128) := rfl
  rw [e]
  have b11_5 := bz_11_5 imm
  have b4_0 := bz_4_0 imm
  have g0 : (row k).g = 0 := hg.1 (by decide)
  rw [g0]
  rw [enc_fr0 (row k).opc (row k).f rd rs1 rs2 (by omega) (by omega) (by omega) (by omega) (by omega) (by omega) (by omega) (by omega) (by omega) (by omega)]
  rw [orz_z2 _ _ _ (by omega) (by omega) (by omega) (by omega) (by omega) (by omega)]
  rw [orz_field _ (bitz imm 11 5) 25 7 33554432 128 rfl rfl (by decide) (by omega) (by omega) (by omega) (by omega) (by omega)]
  rw [orz_field _ (bitz imm 4 0) 7 5 128 32 rfl rfl (by decide) (by omega) (by omega) (by omega) (by omega) (by omega)]
  omega
theorem enc_isa_B {k : Nat} {rd rs1 rs2 imm : Int} (hk : k < 64) (hr : right ⟨k + 1, rd, rs1, rs2, imm⟩ = true) (h : (row k).kind = 66) :
    orz (orz (fixw (row k).opc (row k).f (row k).g (2 ^ gpos (row k).kind)) (regw rd rs1 rs2)) (immw imm (pieces (row k).kind) 0) = encR k rd rs1 rs2 imm := by
  obtain ⟨⟨d0, d1⟩, ⟨s0, s1⟩, ⟨t0, t1⟩, i0, i1⟩ := right_bd hk hr
  have hb := row_bd k hk
  have hg := row_g0 k hk
  rw [h] at hg
  have hz := hr
  rw [right_succ _ _ _ _ _ hk, h] at hz
  simp [has, register, between, fitsImm] at hz
  rw [encR_B _ _ _ _ _ h, h, show gpos 66 = 0 from rfl, show (2:Int) ^ 0 = 1 from rfl]
  have e : immw imm (pieces 66) 0 = orz (orz (orz (orz (0) (bitz imm 12 12 * 2147483648)) (bitz imm 10 5 * 33554432)) (bitz imm 4 1 * 256)) (bitz imm 11 11 * 128) := rfl
  rw [e]
  have b12_12 := bz_12_12 imm
  have b10_5 := bz_10_5 imm
  have b4_1 := bz_4_1 imm
  have b11_11 := bz_11_11 imm
  have g0 : (row k).g = 0 := hg.1 (by decide)
  rw [g0]
  rw [enc_fr0 (row k).opc (row k).f rd rs1 rs2 (by omega) (by omega) (by omega) (by omega) (by omega) (by omega) (by omega) (by omega) (by omega) (by omega)]
  rw [orz_z4 _ _ _ _ _ (by omega) (by omega) (by omega) (by omega) (by omega) (by omega) (by omega) (by omega) (by omega) (by omega)]
  rw [orz_field _ (bitz imm 12 12) 31 1 2147483648 2 rfl rfl (by decide) (by omega) (by omega) (by omega) (by omega) (by omega)]
  rw [orz_field _ (bitz imm 10 5) 25 6 33554432 64 rfl rfl (by decide) (by omega) (by omega) (by omega) (by omega) (by omega)]
  rw [orz_field _ (bitz imm 4 1) 8 4 256 16 rfl rfl (by decide) (by omega) (by omega) (by omega) (by omega) (by omega)]
  rw [orz_field _ (bitz imm 11 11) 7 1 128 2 rfl rfl (by decide) (by omega) (by omega) (by omega) (by omega) (by omega)]
  omega
theorem enc_isa_U {k : Nat} {rd rs1 rs2 imm : Int} (hk : k < 64) (hr : right ⟨k + 1, rd, rs1, rs2, imm⟩ = true) (h : (row k).kind = 85) :
    orz (orz (fixw (row k).opc (row k).f (row k).g (2 ^ gpos (row k).kind)) (regw rd rs1 rs2)) (immw imm (pieces (row k).kind) 0) = encR k rd rs1 rs2 imm := by
  obtain ⟨⟨d0, d1⟩, ⟨s0, s1⟩, ⟨t0, t1⟩, i0, i1⟩ := right_bd hk hr
  have hb := row_bd k hk
  have hg := row_g0 k hk
  rw [h] at hg
  have hz := hr
  rw [right_succ _ _ _ _ _ hk, h] at hz
  simp [has, register, between, fitsImm] at hz
  rw [encR_U _ _ _ _ _ h, h, show gpos 85 = 0 from rfl, show (2:Int) ^ 0 = 1 from rfl]
  have e : immw imm (pieces 85) 0 = orz (0) (bitz imm 19 0 * 4096) := rfl
  rw [e]
  have b19_0 := bz_19_0 imm
  have g0 : (row k).g = 0 := hg.1 (by decide)
  rw [g0]
  have f0 : (row k).f = 0 := hg.2 (by decide)
  rw [f0]
  rw [enc_fr0 (row k).opc 0 rd rs1 rs2 (by omega) (by omega) (by omega) (by omega) (by omega) (by omega) (by omega) (by omega) (by omega) (by omega)]
  rw [orz_z1 _ _ (by omega) (by omega)]
  rw [orz_field _ (bitz imm 19 0) 12 20 4096 1048576 rfl rfl (by decide) (by omega) (by omega) (by omega) (by omega) (by omega)]
  omega
theorem enc_isa_J {k : Nat} {rd rs1 rs2 imm : Int} (hk : k < 64) (hr : right ⟨k + 1, rd, rs1, rs2, imm⟩ = true) (h : (row k).kind = 74) :
    orz (orz (fixw (row k).opc (row k).f (row k).g (2 ^ gpos (row k).kind)) (regw rd rs1 rs2)) (immw imm (pieces (row k).kind) 0) = encR k rd rs1 rs2 imm := by
  obtain ⟨⟨d0, d1⟩, ⟨s0, s1⟩, ⟨t0, t1⟩, i0, i1⟩ := right_bd hk hr
  have hb := row_bd k hk
  have hg := row_g0 k hk
  rw [h] at hg
  have hz := hr
  rw [right_succ _ _ _ _ _ hk, h] at hz
  simp [has, register, between, fitsImm] at hz
  rw [encR_J _ _ _ _ _ h, h, show gpos 74 = 0 from rfl, show (2:Int) ^ 0 = 1 from rfl]
  have e : immw imm (pieces 74) 0 = orz (orz (orz (orz (0) (bitz imm 20 20 * 2147483648)) (bitz imm 10 1 * 2097152)) (bitz imm 11 11 * 1048576)) (bitz imm 19 12 * 4096) := rfl
  rw [e]
  have b20_20 := bz_20_20 imm
  have b10_1 := bz_10_1 imm
  have b11_11 := bz_11_11 imm
  have b19_12 := bz_19_12 imm
  have g0 : (row k).g = 0 := hg.1 (by decide)
  rw [g0]
  have f0 : (row k).f = 0 := hg.2 (by decide)
  rw [f0]
  rw [enc_fr0 (row k).opc 0 rd rs1 rs2 (by omega) (by omega) (by omega) (by omega) (by omega) (by omega) (by omega) (by omega) (by omega) (by omega)]
  rw [orz_z4 _ _ _ _ _ (by omega) (by omega) (by omega) (by omega) (by omega) (by omega) (by omega) (by omega) (by omega) (by omega)]
  rw [orz_field _ (bitz imm 20 20) 31 1 2147483648 2 rfl rfl (by decide) (by omega) (by omega) (by omega) (by omega) (by omega)]
  rw [orz_field _ (bitz imm 10 1) 21 10 2097152 1024 rfl rfl (by decide) (by omega) (by omega) (by omega) (by omega) (by omega)]
  rw [orz_field _ (bitz imm 11 11) 20 1 1048576 2 rfl rfl (by decide) (by omega) (by omega) (by omega) (by omega) (by omega)]
  rw [orz_field _ (bitz imm 19 12) 12 8 4096 256 rfl rfl (by decide) (by omega) (by omega) (by omega) (by omega) (by omega)]
  omega
theorem enc_isa_N {k : Nat} {rd rs1 rs2 imm : Int} (hk : k < 64) (hr : right ⟨k + 1, rd, rs1, rs2, imm⟩ = true) (h : (row k).kind = 78) :
    orz (orz (fixw (row k).opc (row k).f (row k).g (2 ^ gpos (row k).kind)) (regw rd rs1 rs2)) (immw imm (pieces (row k).kind) 0) = encR k rd rs1 rs2 imm := by
  obtain ⟨⟨d0, d1⟩, ⟨s0, s1⟩, ⟨t0, t1⟩, i0, i1⟩ := right_bd hk hr
  have hb := row_bd k hk
  have hg := row_g0 k hk
  rw [h] at hg
  have hz := hr
  rw [right_succ _ _ _ _ _ hk, h] at hz
  simp [has, register, fitsImm] at hz
  rw [encR_N _ _ _ _ _ h, h, show gpos 78 = 20 from rfl, show (2:Int) ^ 20 = 1048576 from rfl]
  have e : immw imm (pieces 78) 0 = 0 := rfl
  rw [e]
  have f0 : (row k).f = 0 := hg.2 (by decide)
  rw [f0]
  have zr : rd = 0 ∧ rs1 = 0 ∧ rs2 = 0 := by omega
  obtain ⟨rfl, rfl, rfl⟩ := zr
  rw [show regw 0 0 0 = 0 from by unfold regw; simp only [Int.zero_mul]; rw [orz_zero 0 (by decide) (by decide), orz_zero 0 (by decide) (by decide)], fixw_n _ _ (by omega) (by omega) (by omega) (by omega)]
  rw [orz_zero ((row k).opc + (row k).g * 1048576) (by omega) (by omega)]
  rw [orz_zero ((row k).opc + (row k).g * 1048576) (by omega) (by omega)]
  omega
theorem enc_isa {k : Nat} {rd rs1 rs2 imm : Int} (hk : k < 64) (hr : right ⟨k + 1, rd, rs1, rs2, imm⟩ = true) :
    orz (orz (fixw (row k).opc (row k).f (row k).g (2 ^ gpos (row k).kind)) (regw rd rs1 rs2)) (immw imm (pieces (row k).kind) 0) = encR k rd rs1 rs2 imm := by
  rcases kinds k hk with h | h | h | h | h | h | h | h | h | h
  · exact enc_isa_R hk hr h
  · exact enc_isa_I hk hr h
  · exact enc_isa_L hk hr h
  · exact enc_isa_H hk hr h
  · exact enc_isa_W hk hr h
  · exact enc_isa_S hk hr h
  · exact enc_isa_B hk hr h
  · exact enc_isa_U hk hr h
  · exact enc_isa_J hk hr h
  · exact enc_isa_N hk hr h
def immWord (kd : Nat) (w : Int) : Int := if most kd < immo w (pieces kd) 0 then immo w (pieces kd) 0 + 2 * least kd else immo w (pieces kd) 0
theorem immo_R (w : Int) : 0 ≤ immo w (pieces 82) 0 ∧ immo w (pieces 82) 0 ≤ 2097152 ∧ immWord 82 w = decImm 82 w := by
  have e : immo w (pieces 82) 0 = 0 := rfl
  rw [e]; exact ⟨by decide, by decide, rfl⟩
theorem immo_I (w : Int) : 0 ≤ immo w (pieces 73) 0 ∧ immo w (pieces 73) 0 ≤ 2097152 ∧ immWord 73 w = decImm 73 w := by
  have e : immo w (pieces 73) 0 = orz (0) (bitz w 31 20 * 1) := rfl
  have b31_20 := bz_31_20 w
  have hd : decImm 73 w = signd (bitz w 31 20) 12 := by simp [decImm]
  have hs := sg_12 (bitz w 31 20)
  unfold immWord
  rw [hd, show most 73 = 2047 from rfl, show least 73 = -2048 from rfl, e, zero_orz _ (by omega) (by omega)]
  refine ⟨by omega, by omega, ?_⟩
  split <;> omega
theorem immo_L (w : Int) : 0 ≤ immo w (pieces 76) 0 ∧ immo w (pieces 76) 0 ≤ 2097152 ∧ immWord 76 w = decImm 76 w := by
  have e : immo w (pieces 76) 0 = orz (0) (bitz w 31 20 * 1) := rfl
  have b31_20 := bz_31_20 w
  have hd : decImm 76 w = signd (bitz w 31 20) 12 := by simp [decImm]
  have hs := sg_12 (bitz w 31 20)
  unfold immWord
  rw [hd, show most 76 = 2047 from rfl, show least 76 = -2048 from rfl, e, zero_orz _ (by omega) (by omega)]
  refine ⟨by omega, by omega, ?_⟩
  split <;> omega
theorem immo_H (w : Int) : 0 ≤ immo w (pieces 72) 0 ∧ immo w (pieces 72) 0 ≤ 2097152 ∧ immWord 72 w = decImm 72 w := by
  have e : immo w (pieces 72) 0 = orz (0) (bitz w 25 20 * 1) := rfl
  have b25_20 := bz_25_20 w
  have hd : decImm 72 w = bitz w 25 20 := by simp [decImm]
  unfold immWord
  rw [hd, show most 72 = 63 from rfl, show least 72 = 0 from rfl, e, zero_orz _ (by omega) (by omega)]
  refine ⟨by omega, by omega, ?_⟩
  split <;> omega
theorem immo_W (w : Int) : 0 ≤ immo w (pieces 87) 0 ∧ immo w (pieces 87) 0 ≤ 2097152 ∧ immWord 87 w = decImm 87 w := by
  have e : immo w (pieces 87) 0 = orz (0) (bitz w 24 20 * 1) := rfl
  have b24_20 := bz_24_20 w
  have hd : decImm 87 w = bitz w 24 20 := by simp [decImm]
  unfold immWord
  rw [hd, show most 87 = 31 from rfl, show least 87 = 0 from rfl, e, zero_orz _ (by omega) (by omega)]
  refine ⟨by omega, by omega, ?_⟩
  split <;> omega
theorem immo_S (w : Int) : 0 ≤ immo w (pieces 83) 0 ∧ immo w (pieces 83) 0 ≤ 2097152 ∧ immWord 83 w = decImm 83 w := by
  have e : immo w (pieces 83) 0 = orz (orz (0) (bitz w 31 25 * 32)) (bitz w 11 7 * 1) := rfl
  have b31_25 := bz_31_25 w
  have b11_7 := bz_11_7 w
  have hd : decImm 83 w = signd (bitz w 31 25 * 32 + bitz w 11 7) 12 := by simp [decImm]
  have hs := sg_12 (bitz w 31 25 * 32 + bitz w 11 7)
  unfold immWord
  rw [hd, show most 83 = 2047 from rfl, show least 83 = -2048 from rfl, e, zero_orz _ (by omega) (by omega)]
  rw [orz_field _ (bitz w 11 7) 0 5 1 32 rfl rfl (by decide) (by omega) (by omega) (by omega) (by omega) (by omega)]
  refine ⟨by omega, by omega, ?_⟩
  split <;> omega
theorem immo_B (w : Int) : 0 ≤ immo w (pieces 66) 0 ∧ immo w (pieces 66) 0 ≤ 2097152 ∧ immWord 66 w = decImm 66 w := by
  have e : immo w (pieces 66) 0 = orz (orz (orz (orz (0) (bitz w 31 31 * 4096)) (bitz w 30 25 * 32)) (bitz w 11 8 * 2)) (bitz w 7 7 * 2048) := rfl
  have b31_31 := bz_31_31 w
  have b30_25 := bz_30_25 w
  have b11_8 := bz_11_8 w
  have b7_7 := bz_7_7 w
  have hd : decImm 66 w = signd (bitz w 31 31 * 4096 + bitz w 7 7 * 2048 + bitz w 30 25 * 32 + bitz w 11 8 * 2) 13 := by simp [decImm]
  have hs := sg_13 (bitz w 31 31 * 4096 + bitz w 7 7 * 2048 + bitz w 30 25 * 32 + bitz w 11 8 * 2)
  unfold immWord
  rw [hd, show most 66 = 4094 from rfl, show least 66 = -4096 from rfl, e, zero_orz _ (by omega) (by omega)]
  rw [orz_field _ (bitz w 30 25) 5 6 32 64 rfl rfl (by decide) (by omega) (by omega) (by omega) (by omega) (by omega)]
  rw [orz_field _ (bitz w 11 8) 1 4 2 16 rfl rfl (by decide) (by omega) (by omega) (by omega) (by omega) (by omega)]
  rw [orz_field _ (bitz w 7 7) 11 1 2048 2 rfl rfl (by decide) (by omega) (by omega) (by omega) (by omega) (by omega)]
  refine ⟨by omega, by omega, ?_⟩
  split <;> omega
theorem immo_U (w : Int) : 0 ≤ immo w (pieces 85) 0 ∧ immo w (pieces 85) 0 ≤ 2097152 ∧ immWord 85 w = decImm 85 w := by
  have e : immo w (pieces 85) 0 = orz (0) (bitz w 31 12 * 1) := rfl
  have b31_12 := bz_31_12 w
  have hd : decImm 85 w = signd (bitz w 31 12) 20 := by simp [decImm]
  have hs := sg_20 (bitz w 31 12)
  unfold immWord
  rw [hd, show most 85 = 524287 from rfl, show least 85 = -524288 from rfl, e, zero_orz _ (by omega) (by omega)]
  refine ⟨by omega, by omega, ?_⟩
  split <;> omega
theorem immo_J (w : Int) : 0 ≤ immo w (pieces 74) 0 ∧ immo w (pieces 74) 0 ≤ 2097152 ∧ immWord 74 w = decImm 74 w := by
  have e : immo w (pieces 74) 0 = orz (orz (orz (orz (0) (bitz w 31 31 * 1048576)) (bitz w 30 21 * 2)) (bitz w 20 20 * 2048)) (bitz w 19 12 * 4096) := rfl
  have b31_31 := bz_31_31 w
  have b30_21 := bz_30_21 w
  have b20_20 := bz_20_20 w
  have b19_12 := bz_19_12 w
  have hd : decImm 74 w = signd (bitz w 31 31 * 1048576 + bitz w 19 12 * 4096 + bitz w 20 20 * 2048 + bitz w 30 21 * 2) 21 := by simp [decImm]
  have hs := sg_21 (bitz w 31 31 * 1048576 + bitz w 19 12 * 4096 + bitz w 20 20 * 2048 + bitz w 30 21 * 2)
  unfold immWord
  rw [hd, show most 74 = 1048574 from rfl, show least 74 = -1048576 from rfl, e, zero_orz _ (by omega) (by omega)]
  rw [orz_field _ (bitz w 30 21) 1 10 2 1024 rfl rfl (by decide) (by omega) (by omega) (by omega) (by omega) (by omega)]
  rw [orz_field _ (bitz w 20 20) 11 1 2048 2 rfl rfl (by decide) (by omega) (by omega) (by omega) (by omega) (by omega)]
  rw [orz_field _ (bitz w 19 12) 12 8 4096 256 rfl rfl (by decide) (by omega) (by omega) (by omega) (by omega) (by omega)]
  refine ⟨by omega, by omega, ?_⟩
  split <;> omega
theorem immo_N (w : Int) : 0 ≤ immo w (pieces 78) 0 ∧ immo w (pieces 78) 0 ≤ 2097152 ∧ immWord 78 w = decImm 78 w := by
  have e : immo w (pieces 78) 0 = 0 := rfl
  rw [e]; exact ⟨by decide, by decide, rfl⟩
theorem immo_is (w : Int) (k : Nat) (hk : k < 64) : 0 ≤ immo w (pieces (row k).kind) 0 ∧ immo w (pieces (row k).kind) 0 ≤ 2097152 ∧ immWord (row k).kind w = decImm (row k).kind w := by
  rcases kinds k hk with h | h | h | h | h | h | h | h | h | h
  · rw [h]; exact immo_R w
  · rw [h]; exact immo_I w
  · rw [h]; exact immo_L w
  · rw [h]; exact immo_H w
  · rw [h]; exact immo_W w
  · rw [h]; exact immo_S w
  · rw [h]; exact immo_B w
  · rw [h]; exact immo_U w
  · rw [h]; exact immo_J w
  · rw [h]; exact immo_N w
end Pn
namespace Pn
open Go
def kdI (kd : Nat) : Int := if kd = 82 then 0 else if kd = 73 then 1 else if kd = 72 then 2 else if kd = 87 then 3 else if kd = 76 then 4 else if kd = 83 then 5 else if kd = 66 then 6 else if kd = 85 then 7 else if kd = 74 then 8 else 9
def irow (k : Nat) : List Value := [.int .i64 (k + 1), .string ⟨(row k).name.toArray⟩, .int .i64 (kdI (row k).kind), .int .i64 (row k).opc, .int .i64 (row k).f, .int .i64 (row k).g]
def irow0 : List Value := [.int .i64 0, .string ⟨#[]⟩, .int .i64 0, .int .i64 0, .int .i64 0, .int .i64 0]
def irowV (k : Nat) : Value := .agg (irow k).toArray
def irow0V : Value := .agg irow0.toArray
def tabC (from' n : Nat) : Array Value := ((List.range n).flatMap fun i => irow (from' + i)).toArray
def tabZ (n : Nat) : Array Value := ((List.range n).flatMap fun _ => irow0).toArray
def byOp (op : Int) (k : Nat) : Bool := ((k:Int) + 1 == op)
def byName (nm : ByteArray) (k : Nat) : Bool := ((row k).name == nm.toList)
theorem tab_part (f n i : Nat) (hi : i < n) : (tabC f n).extract (i * 6) (i * 6 + 6) = (irow (f + i)).toArray := by
  apply Array.ext_getElem?
  intro j
  rw [Array.getElem?_extract]
  have hs : (tabC f n).size = n * 6 := by
    have : ∀ m, ((List.range m).flatMap fun i => irow (f + i)).length = m * 6 := fun m => by
      induction m with
      | zero => rfl
      | succ m ih => rw [List.range_succ, List.flatMap_append, List.length_append, ih]; simp [irow]; omega
    simp [tabC, this]
  by_cases hj : j < 6
  · rw [if_pos (by rw [hs]; omega)]
    unfold tabC
    rw [List.getElem?_toArray, Nat.mul_comm i 6, flat_get (fun i => irow (f + i)) 6 (fun _ => rfl) (List.range n) i j hj (by simpa using hi)]
    rw [List.getElem?_range hi]
    simp
  · rw [if_neg (by rw [hs]; omega)]
    rw [List.getElem?_toArray, List.getElem?_eq_none (by simp [irow]; omega)]
end Pn
namespace Pn
open Go
def PiecesAt (B : Nat) (ps : List (Int × Int × Int)) (sl : Value) (w : World) : Prop :=
  ∃ ao cap, sl = .slice ao ps.length cap ∧ (∀ j p, ps[j]? = some p → ∃ b, ao = some ⟨b, 0, none⟩ ∧ B ≤ b ∧ b < w.heap.size ∧ ps.length ≤ cap ∧
    w.cell? ⟨b, j * 3, none⟩ = some (.int .i64 p.1) ∧ w.cell? ⟨b, j * 3 + 1, none⟩ = some (.int .i64 p.2.1) ∧ w.cell? ⟨b, j * 3 + 2, none⟩ = some (.int .i64 p.2.2))
def layCells (kd : Nat) (sl : Value) : List Value :=
  [.bool (has kd).1, .bool (has kd).2.1, .bool (has kd).2.2, .int .i64 (least kd), .int .i64 (most kd), .bool (evenK kd), sl, .int .i64 (gpos kd), .int .i64 (fixm kd)]
def tk (ev : Bool) (lo hi n : Int) : Bool := if ev && (n.tmod 2 != 0) then false else decide (lo ≤ n) && decide (n ≤ hi)
def takes (kd : Nat) (n : Int) : Bool := tk (evenK kd) (least kd) (most kd) n
def kindsOk (kd : Nat) : Prop := kd = 82 ∨ kd = 73 ∨ kd = 76 ∨ kd = 72 ∨ kd = 87 ∨ kd = 83 ∨ kd = 66 ∨ kd = 85 ∨ kd = 74 ∨ kd = 78
theorem takes_is {kd : Nat} (h : kindsOk kd) (n : Int) : takes kd n = fitsImm kd n := by
  have e0 : (decide (0 ≤ n) && decide (n ≤ 0)) = (n == 0) := by
    rw [← Bool.decide_and, Bool.beq_eq_decide_eq]; exact decide_eq_decide.2 (by omega)
  rcases h with rfl | rfl | rfl | rfl | rfl | rfl | rfl | rfl | rfl | rfl
  all_goals (simp [takes, tk, evenK, least, most, fitsImm, between, e0])
  all_goals (by_cases hn : n.tmod 2 = 0 <;> simp [hn])
def pieceCells (p : Int × Int × Int) : List Value := [.int .i64 p.1, .int .i64 p.2.1, .int .i64 p.2.2]
theorem pieces_nil (B : Nat) (w : World) : PiecesAt B [] (.slice none 0 0) w := ⟨none, 0, rfl, fun j p h => by simp at h⟩
theorem pieces_new (B : Nat) (ps : List (Int × Int × Int)) (w : World) (t : TypeId) (c : Nat) (hc : ps.length ≤ c) (hB : B ≤ w.heap.size) : PiecesAt B ps (.slice (some ⟨w.heap.size, 0, none⟩) ps.length c) (w.alloc (.cells (ps.flatMap pieceCells).toArray t)) := by
  refine ⟨_, c, rfl, fun j p h => ?_⟩
  have hj : j < ps.length := by
    rcases Nat.lt_or_ge j ps.length with h' | h'
    · exact h'
    · rw [List.getElem?_eq_none h'] at h; cases h
  have key : ∀ q, q < 3 → (w.alloc (.cells (ps.flatMap pieceCells).toArray t)).cell? ⟨w.heap.size, j * 3 + q, none⟩ = (pieceCells p)[q]? := fun q hq => by
    have := flat_get pieceCells 3 (fun _ => rfl) ps j q hq hj
    rw [h] at this
    simp only [Option.bind_some] at this
    rw [← this, Nat.mul_comm 3 j, cell_of_row _ _ _ _ t (0, 0) (heap_alloc_last w _), List.getElem?_toArray]
  exact ⟨_, rfl, hB, by simp, hc, key 0 (by omega), key 1 (by omega), key 2 (by omega)⟩
end Pn
namespace Pn
open Go
theorem byOp_find (k : Nat) (hk : k < 64) : (List.range 64).find? (byOp ((k : Int) + 1)) = some k :=
  find_range _ _ _ hk (fun j hj => by simp [byOp]; omega) (by simp [byOp])
theorem byOp_none (op : Int) (h : ¬ (1 ≤ op ∧ op ≤ 64)) : (List.range 64).find? (byOp op) = none :=
  find_none _ _ (fun j hj => by simp [byOp]; omega)
theorem kinds_ok (k : Nat) (hk : k < 64) : kindsOk (row k).kind := kinds k hk
def rightV (i : Ins) : Value := if right i then .tuple #[irowV (i.op - 1).toNat, .bool true] else .tuple #[irow0V, .bool false]
theorem rightV_no {i : Ins} (h : right i = false) : rightV i = .tuple #[irow0V, .bool false] := by simp [rightV, h]
theorem rightV_yes {k : Nat} {rd rs1 rs2 imm : Int} (h : right ⟨k + 1, rd, rs1, rs2, imm⟩ = true) : rightV ⟨k + 1, rd, rs1, rs2, imm⟩ = .tuple #[irowV k, .bool true] := by
  unfold rightV
  have e : ((k : Int) + 1 - 1).toNat = k := by omega
  simp only [h, if_true, e]
end Pn
namespace Pn
open Go
def immW (lo hi A : Int) : Int := if hi < A then A + 2 * lo else A
theorem immW_is (kd : Nat) (w : Int) : immW (least kd) (most kd) (immo w (pieces kd) 0) = immWord kd w := rfl
def PB (ps : List (Int × Int × Int)) : Prop := ∀ p ∈ ps, 0 ≤ p.1 ∧ p.1 ≤ 20 ∧ 1 ≤ p.2.1 ∧ p.2.1 ≤ 20 ∧ 0 ≤ p.2.2 ∧ p.2.2 ≤ 31
theorem pb_kinds {kd : Nat} (h : kindsOk kd) : PB (pieces kd) := by
  unfold PB
  rcases h with rfl | rfl | rfl | rfl | rfl | rfl | rfl | rfl | rfl | rfl <;> decide
theorem pieces_len (kd : Nat) : (pieces kd).length ≤ 4 := by
  unfold pieces
  repeat' split
  all_goals simp
theorem gpos_le (kd : Nat) : (gpos kd : Int) ≤ 40 := by
  unfold gpos
  repeat' split
  all_goals simp
theorem least_bd (kd : Nat) : -1048576 ≤ least kd ∧ least kd ≤ 0 := by
  unfold least
  repeat' split
  all_goals decide
theorem take_more {α : Type} {l : List α} {j : Nat} {p : α} (h : l[j]? = some p) : l.take (j + 1) = l.take j ++ [p] := by
  rw [List.take_add_one, h]; rfl
theorem immw_more {n : Int} {ps : List (Int × Int × Int)} {j : Nat} {p : Int × Int × Int} (h : ps[j]? = some p) :
    immw n (ps.take (j + 1)) 0 = orz (immw n (ps.take j) 0) (bitz n (p.1 + p.2.1 - 1) p.1 * 2 ^ p.2.2.toNat) := by
  rw [take_more h]; unfold immw; rw [List.foldl_append]; rfl
theorem immo_more {n : Int} {ps : List (Int × Int × Int)} {j : Nat} {p : Int × Int × Int} (h : ps[j]? = some p) :
    immo n (ps.take (j + 1)) 0 = orz (immo n (ps.take j) 0) (bitz n (p.2.2 + p.2.1 - 1) p.2.2 * 2 ^ p.1.toNat) := by
  rw [take_more h]; unfold immo; rw [List.foldl_append]; rfl
theorem bz_bd20 (n low width : Int) (l0 : 0 ≤ low) (w0 : 1 ≤ width) (w1 : width ≤ 20) : 0 ≤ bitz n (low + width - 1) low ∧ bitz n (low + width - 1) low ≤ 1048576 := by
  have h := bitz_bd n (low + width - 1) low
  have e : (low + width - 1).toNat - low.toNat + 1 ≤ 20 := by omega
  have := pow_mono e
  have e2 : (2:Int) ^ 20 = 1048576 := by decide
  omega
theorem bz_shl (b at' : Int) (b0 : 0 ≤ b) (b1 : b ≤ 1048576) (a1 : at' ≤ 31) : 0 ≤ b * 2 ^ at'.toNat ∧ b * 2 ^ at'.toNat ≤ 2251799813685248 := by
  have p0 := pow_pos at'.toNat
  have p1 : (2:Int) ^ at'.toNat ≤ 2 ^ 31 := pow_mono (by omega)
  have e2 : (2:Int) ^ 31 = 2147483648 := by decide
  refine ⟨Int.mul_nonneg b0 (by omega), ?_⟩
  have := Int.mul_le_mul b1 p1 (by omega) (by decide)
  rw [e2] at this
  omega
end Pn
namespace Pn
open Go
def rgW (n at' : Int) (t : Bool) : Int := if t then bitz n (at' + 5 - 1) at' else 0
theorem find_congr (n : Int) (n0 : 0 ≤ n) (n1 : n < 4294967296) : (List.range 64).find? (fun k => fitsW k n) = (List.range 64).find? (decHit n) := by
  cases h : (List.range 64).find? (decHit n) with
  | none =>
    rw [List.find?_eq_none] at h ⊢
    intro k hk
    have := h k hk
    rw [fits_hit n k (by simpa using hk) n0 n1]
    exact this
  | some k =>
    rw [List.find?_range_eq_some] at h ⊢
    obtain ⟨h1, h2, h3⟩ := h
    have hk : k < 64 := by simpa using h2
    refine ⟨by rw [fits_hit n k hk n0 n1]; exact h1, h2, fun j hj => ?_⟩
    rw [fits_hit n j (by omega) n0 n1]
    exact h3 j hj
theorem dec_some {n : Int} {k : Nat} (n0 : 0 ≤ n) (n1 : n < 4294967296) (h : (List.range 64).find? (fun k => fitsW k n) = some k) : k < 64 ∧ dec n = (decIns k n, 0) := by
  rw [find_congr n n0 n1] at h
  have h' := h
  rw [List.find?_range_eq_some] at h'
  refine ⟨by simpa using h'.2.1, ?_⟩
  unfold dec
  rw [if_neg (by omega), h]
theorem dec_no {n : Int} (n0 : 0 ≤ n) (n1 : n < 4294967296) (h : (List.range 64).find? (fun k => fitsW k n) = none) : dec n = (⟨0, 0, 0, 0, 0⟩, 1) := by
  rw [find_congr n n0 n1] at h
  unfold dec
  rw [if_neg (by omega), h]
end Pn
namespace Pn
open Go
theorem wr32_bd (x : Int) : -2147483648 ≤ IntKind.i32.wrap x ∧ IntKind.i32.wrap x < 2147483648 := by
  rw [IntKind.wrap_i32]; omega
theorem wu64 (x : Int) : IntKind.u64.wrap x = x % 18446744073709551616 := by rw [IntKind.wrap_u64]
def quo (a b : Int) : Int := if b = 0 then -1 else IntKind.i64.wrap (a.tdiv b)
def rem' (a b : Int) : Int := if b = 0 then a else a.tmod b
def quoU (a b : Int) : Int := if b = 0 then -1 else IntKind.i64.wrap ((a % 18446744073709551616) / (b % 18446744073709551616))
def remU (a b : Int) : Int := if b = 0 then a else IntKind.i64.wrap ((a % 18446744073709551616) % (b % 18446744073709551616))
theorem um_ne (b : Int) (b0 : -9223372036854775808 ≤ b) (b1 : b < 9223372036854775808) (h : b ≠ 0) : 0 < b % 18446744073709551616 := by omega
def high (a b : Int) : Int := IntKind.i64.wrap ((a % 18446744073709551616) * (b % 18446744073709551616) / 18446744073709551616)
def low (x : Int) : Int := IntKind.i32.wrap x
theorem low_bd (x : Int) : -2147483648 ≤ low x ∧ low x < 2147483648 := wr32_bd x
end Pn
namespace Pn
open Go
theorem orz_def (a b : Int) : orz a b = IntKind.i64.wrap (((a % 18446744073709551616).toNat ||| (b % 18446744073709551616).toNat : Nat) : Int) := by
  show IntKind.i64.wrap (((BitVec.ofInt 64 a ||| BitVec.ofInt 64 b).toNat : Nat) : Int) = _
  rw [BitVec.toNat_or, BitVec.toNat_ofInt, BitVec.toNat_ofInt]
  rfl
def numN : List UInt8 → Int
  | [] => 0
  | b :: r => b.toNat + 256 * numN r
theorem numN_bd (l : List UInt8) : 0 ≤ numN l ∧ numN l < 2 ^ (8 * l.length) := by
  induction l with
  | nil => simp [numN]
  | cons b r ih =>
    have := b.toNat_lt
    have e : (2:Int) ^ (8 * (r.length + 1)) = 256 * 2 ^ (8 * r.length) := by
      rw [show 8 * (r.length + 1) = 8 * r.length + 8 from by omega, Int.pow_add]; simp; omega
    simp only [numN, List.length_cons, e]
    generalize (2:Int) ^ (8 * r.length) = p at *
    omega
theorem numN_snoc (l : List UInt8) (b : UInt8) : numN (l ++ [b]) = numN l + b.toNat * 2 ^ (8 * l.length) := by
  induction l with
  | nil => simp [numN]
  | cons c r ih =>
    have e : (2:Int) ^ (8 * (r.length + 1)) = 256 * 2 ^ (8 * r.length) := by
      rw [show 8 * (r.length + 1) = 8 * r.length + 8 from by omega, Int.pow_add]; simp; omega
    simp only [numN, List.cons_append, List.length_cons, e, ih]
    generalize (2:Int) ^ (8 * r.length) = p
    have : (b.toNat : Int) * (256 * p) = 256 * (b.toNat * p) := by rw [← Int.mul_assoc, Int.mul_comm _ 256, Int.mul_assoc]
    omega
theorem orz_byte (x v : Int) (k : Nat) (hk : k ≤ 7) (x0 : 0 ≤ x) (x1 : x < 2 ^ (8 * k)) (v0 : 0 ≤ v) (v1 : v < 256) :
    orz (IntKind.i64.wrap x) (IntKind.i64.wrap (v * 2 ^ (8 * k))) = IntKind.i64.wrap (x + v * 2 ^ (8 * k)) := by
  have hp : (2:Int) ^ (8 * k) ≤ 2 ^ 56 := pow_mono (by omega)
  have hp0 := pow_pos (8 * k)
  have h56 : (2:Int) ^ 56 = 72057594037927936 := by decide
  have hv : v * 2 ^ (8 * k) ≤ 255 * 2 ^ (8 * k) := Int.mul_le_mul_of_nonneg_right (by omega) (by omega)
  have hv0 : 0 ≤ v * 2 ^ (8 * k) := Int.mul_nonneg v0 (by omega)
  rw [orz_def]
  congr 1
  have e1 : (IntKind.i64.wrap x) % 18446744073709551616 = x := by rw [IntKind.wrap_i64]; omega
  have e2 : (IntKind.i64.wrap (v * 2 ^ (8 * k))) % 18446744073709551616 = v * 2 ^ (8 * k) := by
    generalize v * 2 ^ (8 * k) = y at *
    rw [IntKind.wrap_i64]; omega
  rw [e1, e2]
  obtain ⟨x', rfl⟩ := Int.eq_ofNat_of_zero_le x0
  obtain ⟨v', rfl⟩ := Int.eq_ofNat_of_zero_le v0
  have hx : x' < 2 ^ (8 * k) := by exact_mod_cast x1
  have e3 : ((v' : Int) * 2 ^ (8 * k)).toNat = v' * 2 ^ (8 * k) := by
    have : (v' : Int) * 2 ^ (8 * k) = ((v' * 2 ^ (8 * k) : Nat) : Int) := by simp
    rw [this]; rfl
  rw [e3, Int.toNat_natCast]
  rw [or_field x' v' (8 * k) 8 (by omega) (by rw [Nat.div_eq_of_lt hx])]
  simp
def bytN : Nat → Int → List UInt8
  | 0, _ => []
  | n + 1, x => UInt8.ofNat (x % 256).toNat :: bytN n (x / 256)
theorem bytN_len (n : Nat) (x : Int) : (bytN n x).length = n := by
  induction n generalizing x with
  | zero => rfl
  | succ n ih => simp [bytN, ih]
theorem byt_nat (x : Int) : ((UInt8.ofNat (x % 256).toNat).toNat : Int) = x % 256 := by
  rw [UInt8.toNat_ofNat']
  have : (x % 256).toNat % 2 ^ 8 = (x % 256).toNat := Nat.mod_eq_of_lt (by omega)
  rw [this]; omega
theorem bytN_snoc (n : Nat) (x : Int) : bytN (n + 1) x = bytN n x ++ [UInt8.ofNat (x / 256 ^ n % 256).toNat] := by
  induction n generalizing x with
  | zero => simp [bytN]
  | succ n ih =>
    rw [bytN, ih, bytN, List.cons_append]
    have : x / 256 / 256 ^ n = x / 256 ^ (n + 1) := by
      rw [Int.ediv_ediv_of_nonneg (by decide)]
      congr 1
      rw [Int.pow_succ, Int.mul_comm]
    rw [this]
theorem numN_bytN (n : Nat) (x : Int) : numN (bytN n x) = x % 2 ^ (8 * n) := by
  induction n generalizing x with
  | zero => simp [bytN, numN]
  | succ n ih =>
    have e : (2:Int) ^ (8 * (n + 1)) = 256 * 2 ^ (8 * n) := by
      rw [show 8 * (n + 1) = 8 * n + 8 from by omega, Int.pow_add]; simp; omega
    simp only [bytN, numN, ih, e]
    have h1 : (UInt8.ofNat (x % 256).toNat).toNat = (x % 256).toNat := by
      rw [UInt8.toNat_ofNat']; exact Nat.mod_eq_of_lt (by omega)
    rw [h1]
    have hp := pow_pos (8 * n)
    generalize (2:Int) ^ (8 * n) = p at *
    have q1 := Int.mul_ediv_add_emod (x / 256) p
    have q2 := Int.emod_nonneg (x / 256) (show p ≠ 0 by omega)
    have q3 := Int.emod_lt_of_pos (x / 256) hp
    have e5 : x = (x % 256 + 256 * (x / 256 % p)) + 256 * p * (x / 256 / p) := by
      have : 256 * p * (x / 256 / p) = 256 * (p * (x / 256 / p)) := Int.mul_assoc _ _ _
      omega
    have e4 : ((x % 256).toNat : Int) = x % 256 := by omega
    rw [e4]
    have e6 : x % (256 * p) = (x % 256 + 256 * (x / 256 % p)) % (256 * p) := by
      conv => lhs; rw [e5]
      rw [Int.add_mul_emod_self_left]
    exact (e6.trans (Int.emod_eq_of_lt (by omega) (by omega))).symm
end Pn
namespace Pn
open Go
end Pn
