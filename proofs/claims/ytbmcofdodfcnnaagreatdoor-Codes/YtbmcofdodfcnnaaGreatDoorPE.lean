import Derived.Test.YtbmcofdodfcnnaaGreatDoorPB
import Derived.Deep.WholeRow
namespace Pn
open Go
/-- the program's number of a kind -/
def kdI (kd : Nat) : Int := if kd = 82 then 0 else if kd = 73 then 1 else if kd = 72 then 2 else if kd = 87 then 3 else if kd = 76 then 4 else if kd = 83 then 5 else if kd = 66 then 6 else if kd = 85 then 7 else if kd = 74 then 8 else 9
def irow (k : Nat) : List Value := [.int .i64 (k + 1), .string ⟨(row k).name.toArray⟩, .int .i64 (kdI (row k).kind), .int .i64 (row k).opc, .int .i64 (row k).f, .int .i64 (row k).g]
def irow0 : List Value := [.int .i64 0, .string ⟨#[]⟩, .int .i64 0, .int .i64 0, .int .i64 0, .int .i64 0]
def irowV (k : Nat) : Value := .agg (irow k).toArray
def irow0V : Value := .agg irow0.toArray
def tabC (from' n : Nat) : Array Value := ((List.range n).flatMap fun i => irow (from' + i)).toArray
def tabZ (n : Nat) : Array Value := ((List.range n).flatMap fun _ => irow0).toArray
def byOp (op : Int) (k : Nat) : Bool := ((k:Int) + 1 == op)
def byName (nm : ByteArray) (k : Nat) : Bool := ((row k).name == nm.toList)
theorem tab_part (f n i : Nat) (hi : i < n) : (tabC f n).extract (i * 6) (i * 6 + 6) = (irow (f + i)).toArray := by
  apply Array.ext_getElem?
  intro j
  rw [Array.getElem?_extract]
  have hs : (tabC f n).size = n * 6 := by
    have : ∀ m, ((List.range m).flatMap fun i => irow (f + i)).length = m * 6 := fun m => by
      induction m with
      | zero => rfl
      | succ m ih => rw [List.range_succ, List.flatMap_append, List.length_append, ih]; simp [irow]; omega
    simp [tabC, this]
  by_cases hj : j < 6
  · rw [if_pos (by rw [hs]; omega)]
    unfold tabC
    rw [List.getElem?_toArray, Nat.mul_comm i 6, flat_get (fun i => irow (f + i)) 6 (fun _ => rfl) (List.range n) i j hj (by simpa using hi)]
    rw [List.getElem?_range hi]
    simp
  · rw [if_neg (by rw [hs]; omega)]
    rw [List.getElem?_toArray, List.getElem?_eq_none (by simp [irow]; omega)]
end Pn
namespace Pn
open Go
/-- the pieces of a layout in memory, behind a slice -/
def PiecesAt (B : Nat) (ps : List (Int × Int × Int)) (sl : Value) (w : World) : Prop :=
  ∃ ao cap, sl = .slice ao ps.length cap ∧ (∀ j p, ps[j]? = some p → ∃ b, ao = some ⟨b, 0, none⟩ ∧ B ≤ b ∧ b < w.heap.size ∧ ps.length ≤ cap ∧
    w.cell? ⟨b, j * 3, none⟩ = some (.int .i64 p.1) ∧ w.cell? ⟨b, j * 3 + 1, none⟩ = some (.int .i64 p.2.1) ∧ w.cell? ⟨b, j * 3 + 2, none⟩ = some (.int .i64 p.2.2))
def layCells (kd : Nat) (sl : Value) : List Value :=
  [.bool (has kd).1, .bool (has kd).2.1, .bool (has kd).2.2, .int .i64 (least kd), .int .i64 (most kd), .bool (evenK kd), sl, .int .i64 (gpos kd), .int .i64 (fixm kd)]
def tk (ev : Bool) (lo hi n : Int) : Bool := if ev && (n.tmod 2 != 0) then false else decide (lo ≤ n) && decide (n ≤ hi)
def takes (kd : Nat) (n : Int) : Bool := tk (evenK kd) (least kd) (most kd) n
def kindsOk (kd : Nat) : Prop := kd = 82 ∨ kd = 73 ∨ kd = 76 ∨ kd = 72 ∨ kd = 87 ∨ kd = 83 ∨ kd = 66 ∨ kd = 85 ∨ kd = 74 ∨ kd = 78
theorem takes_is {kd : Nat} (h : kindsOk kd) (n : Int) : takes kd n = fitsImm kd n := by
  have e0 : (decide (0 ≤ n) && decide (n ≤ 0)) = (n == 0) := by
    rw [← Bool.decide_and, Bool.beq_eq_decide_eq]; exact decide_eq_decide.2 (by omega)
  rcases h with rfl | rfl | rfl | rfl | rfl | rfl | rfl | rfl | rfl | rfl
  all_goals (simp [takes, tk, evenK, least, most, fitsImm, between, e0])
  all_goals (by_cases hn : n.tmod 2 = 0 <;> simp [hn])
def pieceCells (p : Int × Int × Int) : List Value := [.int .i64 p.1, .int .i64 p.2.1, .int .i64 p.2.2]
theorem pieces_nil (B : Nat) (w : World) : PiecesAt B [] (.slice none 0 0) w := ⟨none, 0, rfl, fun j p h => by simp at h⟩
theorem pieces_new (B : Nat) (ps : List (Int × Int × Int)) (w : World) (t : TypeId) (c : Nat) (hc : ps.length ≤ c) (hB : B ≤ w.heap.size) : PiecesAt B ps (.slice (some ⟨w.heap.size, 0, none⟩) ps.length c) (w.alloc (.cells (ps.flatMap pieceCells).toArray t)) := by
  refine ⟨_, c, rfl, fun j p h => ?_⟩
  have hj : j < ps.length := by
    rcases Nat.lt_or_ge j ps.length with h' | h'
    · exact h'
    · rw [List.getElem?_eq_none h'] at h; cases h
  have key : ∀ q, q < 3 → (w.alloc (.cells (ps.flatMap pieceCells).toArray t)).cell? ⟨w.heap.size, j * 3 + q, none⟩ = (pieceCells p)[q]? := fun q hq => by
    have := flat_get pieceCells 3 (fun _ => rfl) ps j q hq hj
    rw [h] at this
    simp only [Option.bind_some] at this
    rw [← this, Nat.mul_comm 3 j, cell_of_row _ _ _ _ t (0, 0) (heap_alloc_last w _), List.getElem?_toArray]
  exact ⟨_, rfl, hB, by simp, hc, key 0 (by omega), key 1 (by omega), key 2 (by omega)⟩
end Pn
namespace Pn
open Go
theorem byOp_find (k : Nat) (hk : k < 64) : (List.range 64).find? (byOp ((k : Int) + 1)) = some k :=
  find_range _ _ _ hk (fun j hj => by simp [byOp]; omega) (by simp [byOp])
theorem byOp_none (op : Int) (h : ¬ (1 ≤ op ∧ op ≤ 64)) : (List.range 64).find? (byOp op) = none :=
  find_none _ _ (fun j hj => by simp [byOp]; omega)
theorem kinds_ok (k : Nat) (hk : k < 64) : kindsOk (row k).kind := kinds k hk
/-- what the program's Right answers -/
def rightV (i : Ins) : Value := if right i then .tuple #[irowV (i.op - 1).toNat, .bool true] else .tuple #[irow0V, .bool false]
theorem rightV_no {i : Ins} (h : right i = false) : rightV i = .tuple #[irow0V, .bool false] := by simp [rightV, h]
theorem rightV_yes {k : Nat} {rd rs1 rs2 imm : Int} (h : right ⟨k + 1, rd, rs1, rs2, imm⟩ = true) : rightV ⟨k + 1, rd, rs1, rs2, imm⟩ = .tuple #[irowV k, .bool true] := by
  unfold rightV
  have e : ((k : Int) + 1 - 1).toNat = k := by omega
  simp only [h, if_true, e]
end Pn
namespace Pn
open Go
def immW (lo hi A : Int) : Int := if hi < A then A + 2 * lo else A
theorem immW_is (kd : Nat) (w : Int) : immW (least kd) (most kd) (immo w (pieces kd) 0) = immWord kd w := rfl
def PB (ps : List (Int × Int × Int)) : Prop := ∀ p ∈ ps, 0 ≤ p.1 ∧ p.1 ≤ 20 ∧ 1 ≤ p.2.1 ∧ p.2.1 ≤ 20 ∧ 0 ≤ p.2.2 ∧ p.2.2 ≤ 31
theorem pb_kinds {kd : Nat} (h : kindsOk kd) : PB (pieces kd) := by
  unfold PB
  rcases h with rfl | rfl | rfl | rfl | rfl | rfl | rfl | rfl | rfl | rfl <;> decide
theorem pieces_len (kd : Nat) : (pieces kd).length ≤ 4 := by
  unfold pieces
  repeat' split
  all_goals simp
theorem gpos_le (kd : Nat) : (gpos kd : Int) ≤ 40 := by
  unfold gpos
  repeat' split
  all_goals simp
theorem least_bd (kd : Nat) : -1048576 ≤ least kd ∧ least kd ≤ 0 := by
  unfold least
  repeat' split
  all_goals decide
theorem take_more {α : Type} {l : List α} {j : Nat} {p : α} (h : l[j]? = some p) : l.take (j + 1) = l.take j ++ [p] := by
  rw [List.take_add_one, h]; rfl
theorem immw_more {n : Int} {ps : List (Int × Int × Int)} {j : Nat} {p : Int × Int × Int} (h : ps[j]? = some p) :
    immw n (ps.take (j + 1)) 0 = orz (immw n (ps.take j) 0) (bitz n (p.1 + p.2.1 - 1) p.1 * 2 ^ p.2.2.toNat) := by
  rw [take_more h]; unfold immw; rw [List.foldl_append]; rfl
theorem immo_more {n : Int} {ps : List (Int × Int × Int)} {j : Nat} {p : Int × Int × Int} (h : ps[j]? = some p) :
    immo n (ps.take (j + 1)) 0 = orz (immo n (ps.take j) 0) (bitz n (p.2.2 + p.2.1 - 1) p.2.2 * 2 ^ p.1.toNat) := by
  rw [take_more h]; unfold immo; rw [List.foldl_append]; rfl
theorem bz_bd20 (n low width : Int) (l0 : 0 ≤ low) (w0 : 1 ≤ width) (w1 : width ≤ 20) : 0 ≤ bitz n (low + width - 1) low ∧ bitz n (low + width - 1) low ≤ 1048576 := by
  have h := bitz_bd n (low + width - 1) low
  have e : (low + width - 1).toNat - low.toNat + 1 ≤ 20 := by omega
  have := pow_mono e
  have e2 : (2:Int) ^ 20 = 1048576 := by decide
  omega
theorem bz_shl (b at' : Int) (b0 : 0 ≤ b) (b1 : b ≤ 1048576) (a1 : at' ≤ 31) : 0 ≤ b * 2 ^ at'.toNat ∧ b * 2 ^ at'.toNat ≤ 2251799813685248 := by
  have p0 := pow_pos at'.toNat
  have p1 : (2:Int) ^ at'.toNat ≤ 2 ^ 31 := pow_mono (by omega)
  have e2 : (2:Int) ^ 31 = 2147483648 := by decide
  refine ⟨Int.mul_nonneg b0 (by omega), ?_⟩
  have := Int.mul_le_mul b1 p1 (by omega) (by decide)
  rw [e2] at this
  omega
end Pn
namespace Pn
open Go
/-- a register of a word -/
def rgW (n at' : Int) (t : Bool) : Int := if t then bitz n (at' + 5 - 1) at' else 0
theorem find_congr (n : Int) (n0 : 0 ≤ n) (n1 : n < 4294967296) : (List.range 64).find? (fun k => fitsW k n) = (List.range 64).find? (decHit n) := by
  cases h : (List.range 64).find? (decHit n) with
  | none =>
    rw [List.find?_eq_none] at h ⊢
    intro k hk
    have := h k hk
    rw [fits_hit n k (by simpa using hk) n0 n1]
    exact this
  | some k =>
    rw [List.find?_range_eq_some] at h ⊢
    obtain ⟨h1, h2, h3⟩ := h
    have hk : k < 64 := by simpa using h2
    refine ⟨by rw [fits_hit n k hk n0 n1]; exact h1, h2, fun j hj => ?_⟩
    rw [fits_hit n j (by omega) n0 n1]
    exact h3 j hj
theorem dec_some {n : Int} {k : Nat} (n0 : 0 ≤ n) (n1 : n < 4294967296) (h : (List.range 64).find? (fun k => fitsW k n) = some k) : k < 64 ∧ dec n = (decIns k n, 0) := by
  rw [find_congr n n0 n1] at h
  have h' := h
  rw [List.find?_range_eq_some] at h'
  refine ⟨by simpa using h'.2.1, ?_⟩
  unfold dec
  rw [if_neg (by omega), h]
theorem dec_no {n : Int} (n0 : 0 ≤ n) (n1 : n < 4294967296) (h : (List.range 64).find? (fun k => fitsW k n) = none) : dec n = (⟨0, 0, 0, 0, 0⟩, 1) := by
  rw [find_congr n n0 n1] at h
  unfold dec
  rw [if_neg (by omega), h]
end Pn
