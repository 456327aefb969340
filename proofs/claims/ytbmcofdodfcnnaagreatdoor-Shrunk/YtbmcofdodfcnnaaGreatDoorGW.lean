import Derived.Test.YtbmcofdodfcnnaaGreatDoorProg
import Derived.Test.YtbmcofdodfcnnaaGreatDoorGP
import Derived.WalkKit
import Derived.WalkSpells
import Derived.WalkLawsBesides
import Derived.Test.YtbmcofdodfcnnaaGreatDoorGK
import Derived.Deep.RegionWith
import Derived.Deep.QuietTactic
import Derived.BigQuiet
import Derived.Deep.DeepCutAuto
import Derived.IntWalk
namespace Go.Proofs.YtbmcofdodfcnnaaGreatDoor
open Go.RowKit

theorem ret_int {k : IntKind} {a b : Int} (h : a = b) : Ending.returned (.int k a) = .returned (.int k b) := by rw [h]

set_option maxHeartbeats 400000 in
theorem power_any (i : Int) (w : World) (h0 : 0 ≤ i) (h1 : i ≤ 62) :
    Calls Tryz.prog 158 #[.int .i64 i] w fun e w' => e = .returned (.int .i64 (2 ^ i.toNat)) ∧ w' = w := by
  obtain ⟨n, rfl⟩ := Int.eq_ofNat_of_zero_le h0
  rw [Int.toNat_natCast]
  go_enter Tryz.func158, Tryz.ntmps158
  go_wp2
  go_loop [3, 4] (fun m k => ∃ j : Nat, j ≤ n ∧ k = .int .i64 j ∧ m = .int .i64 (2 ^ j)) (fun _ k => n - (intOf k).toNat)
  case atStart => exact ⟨0, Nat.zero_le _, rfl, rfl⟩
  case round =>
    obtain ⟨j, hj, rfl, rfl⟩ := hrel
    have hb := Pn.pow_mono (show j ≤ 62 by omega)
    have hp : (0:Int) < 2 ^ j := Int.pow_pos (by omega)
    have hb' : (2:Int) ^ j ≤ 4611686018427387904 := hb
    clear hb
    by_cases hlt : j < n
    · have hb2 := Pn.pow_mono (show j+1 ≤ 62 by omega)
      have hs := Pn.pow_succ' j
      have hle : (2:Int) ^ j ≤ 2305843009213693952 := by
        have : (2:Int) ^ (j+1) ≤ 4611686018427387904 := hb2
        omega
      have HS : Hid ((2:Int) ^ (j+1) = 2 * 2 ^ j) := hs
      clear hs hb2
      go_wp2
      go_round
      case rel => exact ⟨j + 1, by omega, by go_num, by rw [HS.out]⟩
      case measure => simp [intOf]; omega
    · go_wp2
      go_ret
      have : j = n := by omega
      subst this
      exact ⟨rfl, rfl⟩


theorem power_is (i : Int) (w : World) (h0 : 0 ≤ i) (h1 : i ≤ 62) :
    Calls Tryz.prog 158 #[.int .i64 i] w fun e w' => e = .returned (.int .i64 (Pn.pow2 i)) ∧ w' = w := power_any i w h0 h1

set_option maxHeartbeats 400000 in
theorem bits_any (n hi lo : Int) (w : World) (n0 : -1099511627776 ≤ n) (n1 : n ≤ 1099511627776) (l0 : 0 ≤ lo) (l1 : lo ≤ hi) (hh : hi ≤ 60) :
    Calls Tryz.prog 159 #[.int .i64 n, .int .i64 hi, .int .i64 lo] w fun e w' => e = .returned (.int .i64 (Pn.bits n hi.toNat lo.toNat)) ∧ w' = w := by
  obtain ⟨l, rfl⟩ := Int.eq_ofNat_of_zero_le l0
  obtain ⟨h, rfl⟩ := Int.eq_ofNat_of_zero_le (show 0 ≤ hi by omega)
  simp only [Int.toNat_natCast]
  go_enter Tryz.func159, Tryz.ntmps159
  go_wp2
  go_loop [0, 7] (fun m k => ∃ j : Nat, j ≤ l ∧ k = .int .i64 j ∧ m = .int .i64 (n / 2 ^ j)) (fun _ k => l - (intOf k).toNat)
  case atStart => exact ⟨0, Nat.zero_le _, rfl, by simp⟩
  case round =>
    obtain ⟨j, hj, rfl, rfl⟩ := hrel
    have hb := Pn.div_pow_bound n j 1099511627776 n0 n1 (by omega)
    have HS : Hid (n / 2 ^ (j+1) = (n / 2 ^ j) / 2) := Pn.div_pow_succ n j
    generalize hq : n / 2 ^ j = q at *
    have HQ : Hid (n / 2 ^ j = q) := hq
    clear hq
    by_cases hlt : j < l
    · by_cases hneg : q < 0
      · go_wp2
        go_round
        case rel => exact ⟨j + 1, by omega, by go_num, by rw [HS.out]; first | go_num | (rw [Pn.half_neg _ hneg])⟩
        case measure => simp [intOf]; omega
      · go_wp2
        go_round
        case rel => exact ⟨j + 1, by omega, by go_num, by rw [HS.out]⟩
        case measure => simp [intOf]; omega
    · have hjl : j = l := by omega
      subst hjl
      go_wp2_with fail
      refine (power_any _ _ (by omega) (by omega)).mono ?_
      rintro e w' ⟨rfl, rfl⟩
      have e1 : ((h : Int) - (j : Int) + 1).toNat = h - j + 1 := by omega
      rw [e1]
      have m0 := Pn.pow_pos (h - j + 1)
      have m1 := Pn.pow_le62 (show h - j + 1 ≤ 62 by omega)
      have HR : Hid (Pn.bits n h j = if q.tmod (2 ^ (h - j + 1)) < 0 then q.tmod (2 ^ (h - j + 1)) + 2 ^ (h - j + 1) else q.tmod (2 ^ (h - j + 1))) := by
        rw [Pn.tmod_fix _ _ m0, ← HQ.out]; rfl
      clear e1
      generalize (2 : Int) ^ (h - j + 1) = m at *
      have t0 := Int.lt_tmod_of_pos q m0
      have t1 := Int.tmod_lt_of_pos q m0
      go_wp2
      all_goals
        go_ret
        refine ⟨ret_int ?_, rfl⟩
        rw [HR.out]
        first | rw [if_pos ‹_›] | rw [if_neg (by omega)]

/-- the bits, for the walk: numerals in their places -/
theorem bits_is (n hi lo : Int) (w : World) (n0 : -1099511627776 ≤ n) (n1 : n ≤ 1099511627776) (l0 : 0 ≤ lo) (l1 : lo ≤ hi) (hh : hi ≤ 60) :
    Calls Tryz.prog 159 #[.int .i64 n, .int .i64 hi, .int .i64 lo] w fun e w' => e = .returned (.int .i64 (Pn.bitz n hi lo)) ∧ w' = w := bits_any n hi lo w n0 n1 l0 l1 hh

end Go.Proofs.YtbmcofdodfcnnaaGreatDoor

namespace Go.Proofs.YtbmcofdodfcnnaaGreatDoor
open Go.RowKit

theorem rows_any (w : World) :
    Calls Tryz.prog 157 #[] w fun e w' => e = .returned (.slice (some ⟨w.heap.size, 0, none⟩) 64 64) ∧ w' = w.alloc (.cells Pn.rowsCells 214) :=
  calls_run _ _ Tryz.func157 rfl (by kernel_rfl)

theorem rows_is (w : World) :
    Calls Tryz.prog 157 #[] w fun e w' => ∃ C, Pn.RowsC C ∧ e = .returned (.slice (some ⟨w.heap.size, 0, none⟩) 64 64) ∧ w' = w.alloc (.cells C 214) :=
  (rows_any w).mono fun _ _ h => ⟨_, Pn.rowsC, h⟩

end Go.Proofs.YtbmcofdodfcnnaaGreatDoor

namespace Go.Proofs.YtbmcofdodfcnnaaGreatDoor
open Go.RowKit

theorem ret_val {a b : Value} (h : a = b) : Ending.returned a = .returned b := by rw [h]
set_option maxHeartbeats 400000 in
theorem has_any (k : Nat) (w : World) :
    Calls Tryz.prog 160 #[.int .u8 k] w fun e w' => e = .returned (.tuple #[.bool (Pn.has k).1, .bool (Pn.has k).2.1, .bool (Pn.has k).2.2]) ∧ w' = w := by
  go_enter Tryz.func160, Tryz.ntmps160
  go_wp2
  all_goals
    go_ret3
    refine ⟨ret_val ?_, rfl⟩
    simp only [beq_iff_eq, beq_eq_false_iff_ne, ne_eq] at *
    unfold Pn.has
    first
    | (rw [if_pos (by omega)]; rfl)
    | (rw [if_neg (by omega), if_pos (by omega)]; rfl)
    | (rw [if_neg (by omega), if_neg (by omega), if_pos (by omega)]; rfl)
    | (rw [if_neg (by omega), if_neg (by omega), if_neg (by omega), if_pos (by omega)]; rfl)
    | (rw [if_neg (by omega), if_neg (by omega), if_neg (by omega), if_neg (by omega)]; rfl)

set_option maxHeartbeats 400000 in
theorem between_any (n lo hi : Int) (w : World) :
    Calls Tryz.prog 240 #[.int .i64 n, .int .i64 lo, .int .i64 hi] w fun e w' => e = .returned (.bool (Pn.between n lo hi)) ∧ w' = w := by
  go_enter Tryz.func240, Tryz.ntmps240
  go_wp2
  all_goals
    go_ret
    refine ⟨ret_val ?_, rfl⟩
    unfold Pn.between
    first
    | (rw [decide_eq_true (p := lo ≤ n) (by omega)]; rfl)
    | (rw [decide_eq_false (p := lo ≤ n) (by omega)]; rfl)

set_option maxHeartbeats 400000 in
theorem register_any (t : Bool) (n : Int) (w : World) :
    Calls Tryz.prog 205 #[.bool t, .int .i64 n] w fun e w' => e = .returned (.bool (Pn.register t n)) ∧ w' = w := by
  cases t
  · go_enter Tryz.func205, Tryz.ntmps205
    go_wp2
    go_ret
    exact ⟨rfl, rfl⟩
  · go_enter Tryz.func205, Tryz.ntmps205
    go_wp2_with (go_at_call 240; refine (between_any _ _ _ _).mono ?_; rintro e w' ⟨rfl, rfl⟩)
    go_ret
    exact ⟨rfl, rfl⟩

set_option maxHeartbeats 1000000 in
theorem fitsImm_any (k : Nat) (n : Int) (w : World) :
    Calls Tryz.prog 206 #[.int .u8 k, .int .i64 n] w fun e w' => e = .returned (.bool (Pn.fitsImm k n)) ∧ w' = w := by
  go_enter Tryz.func206, Tryz.ntmps206
  go_wp2_with (go_at_call 240; refine (between_any _ _ _ _).mono ?_; rintro e w' ⟨rfl, rfl⟩)
  all_goals
    go_ret
    refine ⟨ret_val ?_, rfl⟩
    simp only [beq_iff_eq, beq_eq_false_iff_ne, ne_eq, Bool.not_eq_true] at *
    unfold Pn.fitsImm
    first
    | (rw [if_pos (by omega)]; rfl)
    | (rw [if_neg (by omega), if_pos (by omega)]; rfl)
    | (rw [if_neg (by omega), if_neg (by omega), if_pos (by omega)]; rfl)
    | (rw [if_neg (by omega), if_neg (by omega), if_neg (by omega), if_pos (by omega), ‹Pn.between _ _ _ = _›]; rfl)
    | (rw [if_neg (by omega), if_neg (by omega), if_neg (by omega), if_neg (by omega), if_pos (by omega)]; rfl)
    | (rw [if_neg (by omega), if_neg (by omega), if_neg (by omega), if_neg (by omega), if_neg (by omega), if_pos (by omega), ‹Pn.between _ _ _ = _›]; rfl)
    | (rw [if_neg (by omega), if_neg (by omega), if_neg (by omega), if_neg (by omega), if_neg (by omega), if_neg (by omega)]; rfl)

end Go.Proofs.YtbmcofdodfcnnaaGreatDoor

namespace Go.Proofs.YtbmcofdodfcnnaaGreatDoor
open Go.RowKit

/-- at p lies the document's row of op k + 1, in memory that is new since w0 -/
def RowAt (w0 : World) (k : Nat) (p : Value) (wc : World) : Prop :=
  ∃ b, p = .pointer (some ⟨b, 0, none⟩) ∧ w0.heap.size ≤ b ∧ b < wc.heap.size ∧ wc.cell? ⟨b, 0, none⟩ = some (.string ⟨(Pn.row k).name.toArray⟩) ∧ wc.cell? ⟨b, 1, none⟩ = some (.int .u8 (Pn.row k).kind) ∧
    wc.cell? ⟨b, 2, none⟩ = some (.int .i64 (Pn.row k).opc) ∧ wc.cell? ⟨b, 3, none⟩ = some (.int .i64 (Pn.row k).f) ∧ wc.cell? ⟨b, 4, none⟩ = some (.int .i64 (Pn.row k).g) ∧ Below w0.heap.size w0 wc

theorem bcell {B : Nat} {W w1 : World} (hb : Below B W w1) : (∀ b o, b < B → w1.cell? ⟨b, o, none⟩ = W.cell? ⟨b, o, none⟩) :=
  fun b o h => hb.cell (p := ⟨b, o, none⟩) h

theorem rowAt_a (w0 : World) (k : Nat) (C : Array Value) (t u N : Nat) (hN : w0.heap.size = N) : RowAt w0 k (.pointer (some ⟨N + 1, 0, none⟩))
    ((w0.alloc (.cells C t)).alloc (.cells #[.string ⟨(Pn.row k).name.toArray⟩, .int .u8 (Pn.row k).kind, .int .i64 (Pn.row k).opc, .int .i64 (Pn.row k).f, .int .i64 (Pn.row k).g] u)).drew := by
  subst hN
  refine ⟨_, rfl, by omega, by simp, by go_simp, by go_simp, by go_simp, by go_simp, by go_simp, (((Below.refl _ _).alloc (Nat.le_refl _) _).alloc (by simp) _).drew⟩
theorem rowAt_b (w0 : World) (k : Nat) (C : Array Value) (t u N : Nat) (hN : w0.heap.size = N) : RowAt w0 k (.pointer (some ⟨N, 0, none⟩))
    ((w0.alloc (.cells #[.string ⟨(Pn.row k).name.toArray⟩, .int .u8 (Pn.row k).kind, .int .i64 (Pn.row k).opc, .int .i64 (Pn.row k).f, .int .i64 (Pn.row k).g] u)).alloc (.cells C t)).drew := by
  subst hN
  refine ⟨_, rfl, by omega, by simp; omega, by go_simp, by go_simp, by go_simp, by go_simp, by go_simp, (((Below.refl _ _).alloc (Nat.le_refl _) _).alloc (by simp) _).drew⟩
theorem size1 (w : World) (o : Obj) : (w.alloc o).heap.size = w.heap.size + 1 := by simp

set_option maxHeartbeats 1000000 in
theorem right_in (k : Nat) (rd rs1 rs2 imm : Int) (w : World) (hk : k < 64) :
    Calls Tryz.prog 156 #[.agg #[.int .i64 (k + 1), .int .i64 rd, .int .i64 rs1, .int .i64 rs2, .int .i64 imm]] w fun e w' => e = .returned (.bool (Pn.right ⟨k + 1, rd, rs1, rs2, imm⟩)) ∧ Below w.heap.size w w' := by
  have hk2 : (k:Int) < 64 := by omega
  have hwr : IntKind.i64.wrap (k:Int) = (k:Int) := IntWalk.i64_in _ (by omega)
  go_enter Tryz.func156, Tryz.ntmps156
  go_wp2_with fail
  go_cut [3] (fun p wc => RowAt (w.alloc (.cells #[.int .i64 (k + 1), .int .i64 rd, .int .i64 rs1, .int .i64 rs2, .int .i64 imm] 26)) k p wc)
  case first =>
    go_region_with (go_at_call 157; refine (rows_is _).mono ?_; rintro e w' ⟨C, hC, rfl, rfl⟩; obtain ⟨c0, c1, c2, c3, c4⟩ := hC k hk)
    all_goals (go_wp2_with fail; go_meet)
    all_goals first | exact rowAt_a _ k C _ _ _ (size1 _ _) | exact rowAt_b _ k C _ _ _ (size1 _ _)
  case rest =>
    obtain ⟨b, rfl, hb1, hb2, c0, c1, c2, c3, c4, hB⟩ := hcut
    simp only [World.size_alloc] at hb1
    have i1 : wc.cell? ⟨w.heap.size, 1, none⟩ = some (.int .i64 rd) := (hB.cell (p := ⟨w.heap.size, 1, none⟩) (by simp)).trans (by go_simp)
    have i2 : wc.cell? ⟨w.heap.size, 2, none⟩ = some (.int .i64 rs1) := (hB.cell (p := ⟨w.heap.size, 2, none⟩) (by simp)).trans (by go_simp)
    have i3 : wc.cell? ⟨w.heap.size, 3, none⟩ = some (.int .i64 rs2) := (hB.cell (p := ⟨w.heap.size, 3, none⟩) (by simp)).trans (by go_simp)
    have i4 : wc.cell? ⟨w.heap.size, 4, none⟩ = some (.int .i64 imm) := (hB.cell (p := ⟨w.heap.size, 4, none⟩) (by simp)).trans (by go_simp)
    have HB : Hid (Below w.heap.size w wc) := ((Below.refl _ _).alloc (Nat.le_refl _) _).trans (hB.mono (by simp))
    clear hB
    go_wp2_with (first
      | (go_at_call 160; refine (has_any _ _).mono ?_; rintro e w' ⟨rfl, rfl⟩)
      | (go_at_call 205; refine (register_any _ _ _).mono ?_; rintro e w' ⟨rfl, rfl⟩)
      | (go_at_call 206; refine (fitsImm_any _ _ _).mono ?_; rintro e w' ⟨rfl, rfl⟩))
    all_goals
      go_ret
      refine ⟨ret_val ?_, HB.out⟩
      rw [Pn.right_succ _ _ _ _ _ hk]
      first
      | (refine congrArg Value.bool (Pn.and4a ?_ ?_ ?_).symm <;> assumption)
      | (refine congrArg Value.bool (Pn.and4b ?_ ?_ ?_).symm <;> assumption)
      | (refine congrArg Value.bool (Pn.and4c ?_ ?_).symm <;> assumption)
      | (refine congrArg Value.bool (Pn.and4d ?_).symm <;> assumption)

theorem right_lo (op rd rs1 rs2 imm : Int) (w : World) (h : op < 1) :
    Calls Tryz.prog 156 #[.agg #[.int .i64 op, .int .i64 rd, .int .i64 rs1, .int .i64 rs2, .int .i64 imm]] w fun e w' => e = .returned (.bool false) ∧ Below w.heap.size w w' := by
  go_enter Tryz.func156, Tryz.ntmps156
  go_wp2_with fail
  go_ret
  exact ⟨rfl, (Below.refl _ _).alloc (Nat.le_refl _) _⟩

theorem right_hi (op rd rs1 rs2 imm : Int) (w : World) (h : 64 < op) :
    Calls Tryz.prog 156 #[.agg #[.int .i64 op, .int .i64 rd, .int .i64 rs1, .int .i64 rs2, .int .i64 imm]] w fun e w' => e = .returned (.bool false) ∧ Below w.heap.size w w' := by
  have h' : ¬ op < 1 := by omega
  go_enter Tryz.func156, Tryz.ntmps156
  go_wp2_with fail
  go_ret
  exact ⟨rfl, (Below.refl _ _).alloc (Nat.le_refl _) _⟩

theorem right_any (i : Pn.Ins) (w : World) :
    Calls Tryz.prog 156 #[i.val] w fun e w' => e = .returned (.bool (Pn.right i)) ∧ Below w.heap.size w w' := by
  obtain ⟨op, rd, rs1, rs2, imm⟩ := i
  unfold Pn.Ins.val
  simp only
  by_cases h1 : op < 1
  · rw [Pn.right_out _ (by simp only; omega)]; exact right_lo _ _ _ _ _ _ h1
  · by_cases h2 : 64 < op
    · rw [Pn.right_out _ (by simp only; omega)]; exact right_hi _ _ _ _ _ _ h2
    · obtain ⟨k, rfl⟩ : ∃ k : Nat, op = k + 1 := ⟨(op - 1).toNat, by omega⟩
      exact right_in k rd rs1 rs2 imm w (by omega)

end Go.Proofs.YtbmcofdodfcnnaaGreatDoor
