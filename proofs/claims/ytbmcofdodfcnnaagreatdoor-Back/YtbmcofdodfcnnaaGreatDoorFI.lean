import Derived.Test.YtbmcofdodfcnnaaGreatDoorGFG
import Derived.Test.YtbmcofdodfcnnaaGreatDoorGU6
namespace Pn
/-- the conditions of the table -/
def holdB (h : Nat) (i : Ins) : Bool := match h with
  | 0 => true
  | 1 => i.rd != 0
  | 2 => i.rs1 != 0
  | 3 => i.imm != 0
  | 4 => i.rd != 0 && i.rs2 != 0
  | 5 => i.rd != 0 && i.imm != 0
  | 6 => (i.rd != 0) == (i.imm != 0)
  | 7 => i.rd != 0 && i.imm != 0 && i.rd != 2
  | _ => false
def readIns (f : Fm) (n : Int) : Ins := ⟨f.op, regP f.half f.rd n, regP f.half f.rs1 n, regP f.half f.rs2 n, immP f n⟩
/-- what a form reads out of a half -/
def readP (f : Fm) (n : Int) : Ins × Bool := if fitB f.half n then (readIns f n, holdB f.hold (readIns f n)) else (⟨0, 0, 0, 0, 0⟩, false)
end Pn
namespace Go.Proofs.YtbmcofdodfcnnaaGreatDoor
open Go.RowKit
theorem hold_0 (i : Pn.Ins) (w : World) : Calls Tryz.prog 115 #[i.val] w fun e w' => e = .returned (.bool (Pn.holdB 0 i)) ∧ Below w.heap.size w w' := by
  obtain ⟨op, rd, rs1, rs2, imm⟩ := i
  unfold Pn.Ins.val
  go_enter Tryz.func115, Tryz.ntmps115
  go_wp2_with fail
  all_goals
    go_ret
    exact ⟨by first | rfl | simp_all [Pn.holdB], (Below.refl _ _).alloc (Nat.le_refl _) _⟩
theorem hold_1 (i : Pn.Ins) (w : World) : Calls Tryz.prog 117 #[i.val] w fun e w' => e = .returned (.bool (Pn.holdB 1 i)) ∧ Below w.heap.size w w' := by
  obtain ⟨op, rd, rs1, rs2, imm⟩ := i
  unfold Pn.Ins.val
  go_enter Tryz.func117, Tryz.ntmps117
  go_wp2_with fail
  all_goals
    go_ret
    exact ⟨by first | rfl | simp_all [Pn.holdB], (Below.refl _ _).alloc (Nat.le_refl _) _⟩
theorem hold_2 (i : Pn.Ins) (w : World) : Calls Tryz.prog 120 #[i.val] w fun e w' => e = .returned (.bool (Pn.holdB 2 i)) ∧ Below w.heap.size w w' := by
  obtain ⟨op, rd, rs1, rs2, imm⟩ := i
  unfold Pn.Ins.val
  go_enter Tryz.func120, Tryz.ntmps120
  go_wp2_with fail
  all_goals
    go_ret
    exact ⟨by first | rfl | simp_all [Pn.holdB], (Below.refl _ _).alloc (Nat.le_refl _) _⟩
theorem hold_3 (i : Pn.Ins) (w : World) : Calls Tryz.prog 114 #[i.val] w fun e w' => e = .returned (.bool (Pn.holdB 3 i)) ∧ Below w.heap.size w w' := by
  obtain ⟨op, rd, rs1, rs2, imm⟩ := i
  unfold Pn.Ins.val
  go_enter Tryz.func114, Tryz.ntmps114
  go_wp2_with fail
  all_goals
    go_ret
    exact ⟨by first | rfl | simp_all [Pn.holdB], (Below.refl _ _).alloc (Nat.le_refl _) _⟩
theorem hold_4 (i : Pn.Ins) (w : World) : Calls Tryz.prog 121 #[i.val] w fun e w' => e = .returned (.bool (Pn.holdB 4 i)) ∧ Below w.heap.size w w' := by
  obtain ⟨op, rd, rs1, rs2, imm⟩ := i
  unfold Pn.Ins.val
  go_enter Tryz.func121, Tryz.ntmps121
  go_wp2_with fail
  all_goals
    go_ret
    exact ⟨by first | rfl | simp_all [Pn.holdB], (Below.refl _ _).alloc (Nat.le_refl _) _⟩
theorem hold_5 (i : Pn.Ins) (w : World) : Calls Tryz.prog 119 #[i.val] w fun e w' => e = .returned (.bool (Pn.holdB 5 i)) ∧ Below w.heap.size w w' := by
  obtain ⟨op, rd, rs1, rs2, imm⟩ := i
  unfold Pn.Ins.val
  go_enter Tryz.func119, Tryz.ntmps119
  go_wp2_with fail
  all_goals
    go_ret
    exact ⟨by first | rfl | simp_all [Pn.holdB], (Below.refl _ _).alloc (Nat.le_refl _) _⟩
theorem hold_6 (i : Pn.Ins) (w : World) : Calls Tryz.prog 116 #[i.val] w fun e w' => e = .returned (.bool (Pn.holdB 6 i)) ∧ Below w.heap.size w w' := by
  obtain ⟨op, rd, rs1, rs2, imm⟩ := i
  unfold Pn.Ins.val
  go_enter Tryz.func116, Tryz.ntmps116
  go_wp2_with fail
  all_goals
    go_ret
    exact ⟨by first | rfl | simp_all [Pn.holdB], (Below.refl _ _).alloc (Nat.le_refl _) _⟩
theorem hold_7 (i : Pn.Ins) (w : World) : Calls Tryz.prog 118 #[i.val] w fun e w' => e = .returned (.bool (Pn.holdB 7 i)) ∧ Below w.heap.size w w' := by
  have H5 := hid (fun w' => hold_5 i w')
  have HV : Hid (Pn.holdB 7 i = (Pn.holdB 5 i && i.rd != 2)) := hid rfl
  generalize Pn.holdB 5 i = X at *
  obtain ⟨op, rd, rs1, rs2, imm⟩ := i
  unfold Pn.Ins.val at *
  simp only at *
  go_enter Tryz.func118, Tryz.ntmps118
  go_wp2_with fail
  refine (H5.out _).mono ?_
  rintro e w1 ⟨rfl, hB1⟩
  have hs := hB1.size
  obtain ⟨hi0, hi1, hic⟩ := (CellsAt.new w [.int .i64 op, .int .i64 rd, .int .i64 rs1, .int .i64 rs2, .int .i64 imm] 26).next hB1
  have c1 := hic 1 _ rfl
  have HB : Hid (Below w.heap.size w w1) := hid (((Below.refl _ _).alloc (Nat.le_refl _) _).trans (hB1.mono (by simp)))
  clear hB1 hic hs
  cases X
  · go_wp2_with fail
    all_goals
      go_ret
      exact ⟨by rw [HV.out]; rfl, HB.out⟩
  · go_wp2_with fail
    all_goals
      go_ret
      exact ⟨by rw [HV.out]; rfl, HB.out⟩
/-- any condition of the table -/
theorem hold_any (h : Nat) (hh : h < 8) (i : Pn.Ins) (w : World) : Calls Tryz.prog (holdF h) #[i.val] w fun e w' => e = .returned (.bool (Pn.holdB h i)) ∧ Below w.heap.size w w' := by
  match h, hh with
  | 0, _ => exact hold_0 i w
  | 1, _ => exact hold_1 i w
  | 2, _ => exact hold_2 i w
  | 3, _ => exact hold_3 i w
  | 4, _ => exact hold_4 i w
  | 5, _ => exact hold_5 i w
  | 6, _ => exact hold_6 i w
  | 7, _ => exact hold_7 i w
end Go.Proofs.YtbmcofdodfcnnaaGreatDoor
