import Derived.Test.YtbmcofdodfcnnaaGreatDoorGW
import Derived.Deep.RegionWith
import Derived.Deep.QuietTactic
import Derived.BigQuiet
import Derived.Deep.DeepCutAuto
import Derived.IntWalk
namespace Go.Proofs.YtbmcofdodfcnnaaGreatDoor
open Go.RowKit

/-- at p lies the document's row of op k + 1, in memory that is new since w0 -/
def RowAt (w0 : World) (k : Nat) (p : Value) (wc : World) : Prop :=
  ∃ b, p = .pointer (some ⟨b, 0, none⟩) ∧ w0.heap.size ≤ b ∧ b < wc.heap.size ∧ wc.cell? ⟨b, 0, none⟩ = some (.string ⟨(Pn.row k).name.toArray⟩) ∧ wc.cell? ⟨b, 1, none⟩ = some (.int .u8 (Pn.row k).kind) ∧
    wc.cell? ⟨b, 2, none⟩ = some (.int .i64 (Pn.row k).opc) ∧ wc.cell? ⟨b, 3, none⟩ = some (.int .i64 (Pn.row k).f) ∧ wc.cell? ⟨b, 4, none⟩ = some (.int .i64 (Pn.row k).g) ∧ Below w0.heap.size w0 wc

theorem bcell {B : Nat} {W w1 : World} (hb : Below B W w1) : (∀ b o, b < B → w1.cell? ⟨b, o, none⟩ = W.cell? ⟨b, o, none⟩) :=
  fun b o h => hb.cell (p := ⟨b, o, none⟩) h

theorem rowAt_a (w0 : World) (k : Nat) (C : Array Value) (t u N : Nat) (hN : w0.heap.size = N) : RowAt w0 k (.pointer (some ⟨N + 1, 0, none⟩))
    ((w0.alloc (.cells C t)).alloc (.cells #[.string ⟨(Pn.row k).name.toArray⟩, .int .u8 (Pn.row k).kind, .int .i64 (Pn.row k).opc, .int .i64 (Pn.row k).f, .int .i64 (Pn.row k).g] u)).drew := by
  subst hN
  refine ⟨_, rfl, by omega, by simp, by go_simp, by go_simp, by go_simp, by go_simp, by go_simp, (((Below.refl _ _).alloc (Nat.le_refl _) _).alloc (by simp) _).drew⟩
theorem rowAt_b (w0 : World) (k : Nat) (C : Array Value) (t u N : Nat) (hN : w0.heap.size = N) : RowAt w0 k (.pointer (some ⟨N, 0, none⟩))
    ((w0.alloc (.cells #[.string ⟨(Pn.row k).name.toArray⟩, .int .u8 (Pn.row k).kind, .int .i64 (Pn.row k).opc, .int .i64 (Pn.row k).f, .int .i64 (Pn.row k).g] u)).alloc (.cells C t)).drew := by
  subst hN
  refine ⟨_, rfl, by omega, by simp; omega, by go_simp, by go_simp, by go_simp, by go_simp, by go_simp, (((Below.refl _ _).alloc (Nat.le_refl _) _).alloc (by simp) _).drew⟩
theorem size1 (w : World) (o : Obj) : (w.alloc o).heap.size = w.heap.size + 1 := by simp

set_option maxHeartbeats 1000000 in
theorem right_in (k : Nat) (rd rs1 rs2 imm : Int) (w : World) (hk : k < 64) :
    Calls Tryz.prog 156 #[.agg #[.int .i64 (k + 1), .int .i64 rd, .int .i64 rs1, .int .i64 rs2, .int .i64 imm]] w fun e w' => e = .returned (.bool (Pn.right ⟨k + 1, rd, rs1, rs2, imm⟩)) ∧ Below w.heap.size w w' := by
  have hk2 : (k:Int) < 64 := by omega
  have hwr : IntKind.i64.wrap (k:Int) = (k:Int) := IntWalk.i64_in _ (by omega)
  go_enter Tryz.func156, Tryz.ntmps156
  go_wp2_with fail
  go_cut [3] (fun p wc => RowAt (w.alloc (.cells #[.int .i64 (k + 1), .int .i64 rd, .int .i64 rs1, .int .i64 rs2, .int .i64 imm] 26)) k p wc)
  case first =>
    go_region_with (go_at_call 157; refine (rows_is _).mono ?_; rintro e w' ⟨C, hC, rfl, rfl⟩; obtain ⟨c0, c1, c2, c3, c4⟩ := hC k hk)
    all_goals (go_wp2_with fail; go_meet)
    all_goals first | exact rowAt_a _ k C _ _ _ (size1 _ _) | exact rowAt_b _ k C _ _ _ (size1 _ _)
  case rest =>
    obtain ⟨b, rfl, hb1, hb2, c0, c1, c2, c3, c4, hB⟩ := hcut
    simp only [World.size_alloc] at hb1
    have i1 : wc.cell? ⟨w.heap.size, 1, none⟩ = some (.int .i64 rd) := (hB.cell (p := ⟨w.heap.size, 1, none⟩) (by simp)).trans (by go_simp)
    have i2 : wc.cell? ⟨w.heap.size, 2, none⟩ = some (.int .i64 rs1) := (hB.cell (p := ⟨w.heap.size, 2, none⟩) (by simp)).trans (by go_simp)
    have i3 : wc.cell? ⟨w.heap.size, 3, none⟩ = some (.int .i64 rs2) := (hB.cell (p := ⟨w.heap.size, 3, none⟩) (by simp)).trans (by go_simp)
    have i4 : wc.cell? ⟨w.heap.size, 4, none⟩ = some (.int .i64 imm) := (hB.cell (p := ⟨w.heap.size, 4, none⟩) (by simp)).trans (by go_simp)
    have HB : Hid (Below w.heap.size w wc) := ((Below.refl _ _).alloc (Nat.le_refl _) _).trans (hB.mono (by simp))
    clear hB
    go_wp2_with (first
      | (go_at_call 160; refine (has_any _ _).mono ?_; rintro e w' ⟨rfl, rfl⟩)
      | (go_at_call 205; refine (register_any _ _ _).mono ?_; rintro e w' ⟨rfl, rfl⟩)
      | (go_at_call 206; refine (fitsImm_any _ _ _).mono ?_; rintro e w' ⟨rfl, rfl⟩))
    all_goals
      go_ret
      refine ⟨ret_val ?_, HB.out⟩
      rw [Pn.right_succ _ _ _ _ _ hk]
      first
      | (refine congrArg Value.bool (Pn.and4a ?_ ?_ ?_).symm <;> assumption)
      | (refine congrArg Value.bool (Pn.and4b ?_ ?_ ?_).symm <;> assumption)
      | (refine congrArg Value.bool (Pn.and4c ?_ ?_).symm <;> assumption)
      | (refine congrArg Value.bool (Pn.and4d ?_).symm <;> assumption)

theorem right_lo (op rd rs1 rs2 imm : Int) (w : World) (h : op < 1) :
    Calls Tryz.prog 156 #[.agg #[.int .i64 op, .int .i64 rd, .int .i64 rs1, .int .i64 rs2, .int .i64 imm]] w fun e w' => e = .returned (.bool false) ∧ Below w.heap.size w w' := by
  go_enter Tryz.func156, Tryz.ntmps156
  go_wp2_with fail
  go_ret
  exact ⟨rfl, (Below.refl _ _).alloc (Nat.le_refl _) _⟩

theorem right_hi (op rd rs1 rs2 imm : Int) (w : World) (h : 64 < op) :
    Calls Tryz.prog 156 #[.agg #[.int .i64 op, .int .i64 rd, .int .i64 rs1, .int .i64 rs2, .int .i64 imm]] w fun e w' => e = .returned (.bool false) ∧ Below w.heap.size w w' := by
  have h' : ¬ op < 1 := by omega
  go_enter Tryz.func156, Tryz.ntmps156
  go_wp2_with fail
  go_ret
  exact ⟨rfl, (Below.refl _ _).alloc (Nat.le_refl _) _⟩

theorem right_any (i : Pn.Ins) (w : World) :
    Calls Tryz.prog 156 #[i.val] w fun e w' => e = .returned (.bool (Pn.right i)) ∧ Below w.heap.size w w' := by
  obtain ⟨op, rd, rs1, rs2, imm⟩ := i
  unfold Pn.Ins.val
  simp only
  by_cases h1 : op < 1
  · rw [Pn.right_out _ (by simp only; omega)]; exact right_lo _ _ _ _ _ _ h1
  · by_cases h2 : 64 < op
    · rw [Pn.right_out _ (by simp only; omega)]; exact right_hi _ _ _ _ _ _ h2
    · obtain ⟨k, rfl⟩ : ∃ k : Nat, op = k + 1 := ⟨(op - 1).toNat, by omega⟩
      exact right_in k rd rs1 rs2 imm w (by omega)

end Go.Proofs.YtbmcofdodfcnnaaGreatDoor
