import Derived.Test.YtbmcofdodfcnnaaGreatDoorGV
import Derived.Test.YtbmcofdodfcnnaaGreatDoorGP
namespace Go.Proofs.YtbmcofdodfcnnaaGreatDoor
open Go.RowKit

set_option maxRecDepth 100000 in
set_option maxHeartbeats 2000000 in
theorem layoutOf_is (kd : Nat) (hk : Pn.kindsOk kd) (w : World) :
    Calls Tryz.prog 59 #[.int .i64 (Pn.kdI kd)] w fun e w' => ∃ sl, e = .returned (.agg (Pn.layCells kd sl).toArray) ∧ Pn.PiecesAt w.heap.size (Pn.pieces kd) sl w' ∧ Below w.heap.size w w' := by
  rcases hk with rfl | rfl | rfl | rfl | rfl | rfl | rfl | rfl | rfl | rfl
  · have : Pn.kdI 82 = 0 := rfl
    rw [this]
    clear this
    go_enter Tryz.func59, Tryz.ntmps59
    go_wp2_with fail
    refine bodyPost_ret (v := .agg (Pn.layCells 82 (.slice none 0 0)).toArray) (by simp [results, Tryz.results59, go_sem, Pn.layCells, Pn.has, Pn.least, Pn.most, Pn.evenK, Pn.gpos, Pn.fixm]) rfl ⟨_, rfl, Pn.pieces_nil _ _, (Below.refl _ _).alloc (Nat.le_refl _) _⟩
  · have : Pn.kdI 73 = 1 := rfl
    rw [this]
    clear this
    go_enter Tryz.func59, Tryz.ntmps59
    go_wp2_with fail
    refine bodyPost_ret (v := .agg (Pn.layCells 73 (.slice (some ⟨w.heap.size + 1, 0, none⟩) 1 1)).toArray) (by simp [results, Tryz.results59, go_sem, Pn.layCells, Pn.has, Pn.least, Pn.most, Pn.evenK, Pn.gpos, Pn.fixm]) rfl ⟨_, rfl, by have := Pn.pieces_new w.heap.size (Pn.pieces 73) (w.alloc (.cells (Pn.layCells 73 (.slice (some ⟨w.heap.size + 1, 0, none⟩) 1 1)).toArray 105)) 175 1 (Nat.le_refl _) (by simp); rw [World.size_alloc] at this; exact this, ((Below.refl _ _).alloc (Nat.le_refl _) _).alloc (by simp) _⟩
  · have : Pn.kdI 76 = 4 := rfl
    rw [this]
    clear this
    go_enter Tryz.func59, Tryz.ntmps59
    go_wp2_with fail
    refine bodyPost_ret (v := .agg (Pn.layCells 76 (.slice (some ⟨w.heap.size + 1, 0, none⟩) 1 1)).toArray) (by simp [results, Tryz.results59, go_sem, Pn.layCells, Pn.has, Pn.least, Pn.most, Pn.evenK, Pn.gpos, Pn.fixm]) rfl ⟨_, rfl, by have := Pn.pieces_new w.heap.size (Pn.pieces 76) (w.alloc (.cells (Pn.layCells 76 (.slice (some ⟨w.heap.size + 1, 0, none⟩) 1 1)).toArray 105)) 175 1 (Nat.le_refl _) (by simp); rw [World.size_alloc] at this; exact this, ((Below.refl _ _).alloc (Nat.le_refl _) _).alloc (by simp) _⟩
  · have : Pn.kdI 72 = 2 := rfl
    rw [this]
    clear this
    go_enter Tryz.func59, Tryz.ntmps59
    go_wp2_with fail
    refine bodyPost_ret (v := .agg (Pn.layCells 72 (.slice (some ⟨w.heap.size + 1, 0, none⟩) 1 1)).toArray) (by simp [results, Tryz.results59, go_sem, Pn.layCells, Pn.has, Pn.least, Pn.most, Pn.evenK, Pn.gpos, Pn.fixm]) rfl ⟨_, rfl, by have := Pn.pieces_new w.heap.size (Pn.pieces 72) (w.alloc (.cells (Pn.layCells 72 (.slice (some ⟨w.heap.size + 1, 0, none⟩) 1 1)).toArray 105)) 175 1 (Nat.le_refl _) (by simp); rw [World.size_alloc] at this; exact this, ((Below.refl _ _).alloc (Nat.le_refl _) _).alloc (by simp) _⟩
  · have : Pn.kdI 87 = 3 := rfl
    rw [this]
    clear this
    go_enter Tryz.func59, Tryz.ntmps59
    go_wp2_with fail
    refine bodyPost_ret (v := .agg (Pn.layCells 87 (.slice (some ⟨w.heap.size + 1, 0, none⟩) 1 1)).toArray) (by simp [results, Tryz.results59, go_sem, Pn.layCells, Pn.has, Pn.least, Pn.most, Pn.evenK, Pn.gpos, Pn.fixm]) rfl ⟨_, rfl, by have := Pn.pieces_new w.heap.size (Pn.pieces 87) (w.alloc (.cells (Pn.layCells 87 (.slice (some ⟨w.heap.size + 1, 0, none⟩) 1 1)).toArray 105)) 175 1 (Nat.le_refl _) (by simp); rw [World.size_alloc] at this; exact this, ((Below.refl _ _).alloc (Nat.le_refl _) _).alloc (by simp) _⟩
  · have : Pn.kdI 83 = 5 := rfl
    rw [this]
    clear this
    go_enter Tryz.func59, Tryz.ntmps59
    go_wp2_with fail
    refine bodyPost_ret (v := .agg (Pn.layCells 83 (.slice (some ⟨w.heap.size + 1, 0, none⟩) 2 2)).toArray) (by simp [results, Tryz.results59, go_sem, Pn.layCells, Pn.has, Pn.least, Pn.most, Pn.evenK, Pn.gpos, Pn.fixm]) rfl ⟨_, rfl, by have := Pn.pieces_new w.heap.size (Pn.pieces 83) (w.alloc (.cells (Pn.layCells 83 (.slice (some ⟨w.heap.size + 1, 0, none⟩) 2 2)).toArray 105)) 175 2 (Nat.le_refl _) (by simp); rw [World.size_alloc] at this; exact this, ((Below.refl _ _).alloc (Nat.le_refl _) _).alloc (by simp) _⟩
  · have : Pn.kdI 66 = 6 := rfl
    rw [this]
    clear this
    go_enter Tryz.func59, Tryz.ntmps59
    go_wp2_with fail
    refine bodyPost_ret (v := .agg (Pn.layCells 66 (.slice (some ⟨w.heap.size + 1, 0, none⟩) 4 4)).toArray) (by simp [results, Tryz.results59, go_sem, Pn.layCells, Pn.has, Pn.least, Pn.most, Pn.evenK, Pn.gpos, Pn.fixm]) rfl ⟨_, rfl, by have := Pn.pieces_new w.heap.size (Pn.pieces 66) (w.alloc (.cells (Pn.layCells 66 (.slice (some ⟨w.heap.size + 1, 0, none⟩) 4 4)).toArray 105)) 175 4 (Nat.le_refl _) (by simp); rw [World.size_alloc] at this; exact this, ((Below.refl _ _).alloc (Nat.le_refl _) _).alloc (by simp) _⟩
  · have : Pn.kdI 85 = 7 := rfl
    rw [this]
    clear this
    go_enter Tryz.func59, Tryz.ntmps59
    go_wp2_with fail
    refine bodyPost_ret (v := .agg (Pn.layCells 85 (.slice (some ⟨w.heap.size + 1, 0, none⟩) 1 1)).toArray) (by simp [results, Tryz.results59, go_sem, Pn.layCells, Pn.has, Pn.least, Pn.most, Pn.evenK, Pn.gpos, Pn.fixm]) rfl ⟨_, rfl, by have := Pn.pieces_new w.heap.size (Pn.pieces 85) (w.alloc (.cells (Pn.layCells 85 (.slice (some ⟨w.heap.size + 1, 0, none⟩) 1 1)).toArray 105)) 175 1 (Nat.le_refl _) (by simp); rw [World.size_alloc] at this; exact this, ((Below.refl _ _).alloc (Nat.le_refl _) _).alloc (by simp) _⟩
  · have : Pn.kdI 74 = 8 := rfl
    rw [this]
    clear this
    go_enter Tryz.func59, Tryz.ntmps59
    go_wp2_with fail
    refine bodyPost_ret (v := .agg (Pn.layCells 74 (.slice (some ⟨w.heap.size + 1, 0, none⟩) 4 4)).toArray) (by simp [results, Tryz.results59, go_sem, Pn.layCells, Pn.has, Pn.least, Pn.most, Pn.evenK, Pn.gpos, Pn.fixm]) rfl ⟨_, rfl, by have := Pn.pieces_new w.heap.size (Pn.pieces 74) (w.alloc (.cells (Pn.layCells 74 (.slice (some ⟨w.heap.size + 1, 0, none⟩) 4 4)).toArray 105)) 175 4 (Nat.le_refl _) (by simp); rw [World.size_alloc] at this; exact this, ((Below.refl _ _).alloc (Nat.le_refl _) _).alloc (by simp) _⟩
  · have : Pn.kdI 78 = 9 := rfl
    rw [this]
    clear this
    go_enter Tryz.func59, Tryz.ntmps59
    go_wp2_with fail
    refine bodyPost_ret (v := .agg (Pn.layCells 78 (.slice none 0 0)).toArray) (by simp [results, Tryz.results59, go_sem, Pn.layCells, Pn.has, Pn.least, Pn.most, Pn.evenK, Pn.gpos, Pn.fixm]) rfl ⟨_, rfl, Pn.pieces_nil _ _, (Below.refl _ _).alloc (Nat.le_refl _) _⟩
end Go.Proofs.YtbmcofdodfcnnaaGreatDoor

namespace Go.Proofs.YtbmcofdodfcnnaaGreatDoor
open Go.RowKit

set_option maxHeartbeats 1000000 in
theorem takesImm_any (a b c ev : Bool) (lo hi g fx n : Int) (ao : Option Addr) (ln cp : Nat) (w : World) :
    Calls Tryz.prog 111 #[.agg #[.bool a, .bool b, .bool c, .int .i64 lo, .int .i64 hi, .bool ev, .slice ao ln cp, .int .i64 g, .int .i64 fx], .int .i64 n] w fun e w' =>
      e = .returned (.bool (Pn.tk ev lo hi n)) ∧ Below w.heap.size w w' := by
  cases ev
  all_goals
    go_enter Tryz.func111, Tryz.ntmps111
    go_wp2_with fail
    all_goals
      go_ret
      refine ⟨ret_val (congrArg Value.bool ?_), (Below.refl _ _).alloc (Nat.le_refl _) _⟩
      unfold Pn.tk
      first
      | (rw [decide_eq_true (p := lo ≤ n) (by omega)]; simp [*])
      | (rw [decide_eq_false (p := lo ≤ n) (by omega)]; simp)
      | simp [*]

set_option maxHeartbeats 1000000 in
theorem fixedPart_any (op kd opc f g lo hi gat fx : Int) (nm : ByteArray) (a b c ev : Bool) (ao : Option Addr) (ln cp : Nat) (w : World) (g0 : 0 ≤ gat) (g1 : gat ≤ 40) (f0 : 0 ≤ f) (f1 : f ≤ 7) (q0 : 0 ≤ g) (q1 : g ≤ 127) :
    Calls Tryz.prog 60 #[.agg #[.int .i64 op, .string nm, .int .i64 kd, .int .i64 opc, .int .i64 f, .int .i64 g], .agg #[.bool a, .bool b, .bool c, .int .i64 lo, .int .i64 hi, .bool ev, .slice ao ln cp, .int .i64 gat, .int .i64 fx]] w fun e w' =>
      e = .returned (.int .i64 (Pn.fixw opc f g (2 ^ gat.toNat))) ∧ Below w.heap.size w w' := by
  go_enter Tryz.func60, Tryz.ntmps60
  go_wp2_with fail
  go_quiet (fail)
  go_wp2_with fail
  go_ret
  refine ⟨ret_int ?_, below_drewN (((Below.refl _ _).alloc (Nat.le_refl _) _).alloc (by simp) _) _⟩
  have p0 := Pn.pow_pos gat.toNat
  have p1 : (2:Int) ^ gat.toNat ≤ 2 ^ 40 := Pn.pow_mono (by omega)
  have m0 : 0 ≤ g * 2 ^ gat.toNat := Int.mul_nonneg q0 (by omega)
  have m1 : g * 2 ^ gat.toNat ≤ 127 * 2 ^ 40 := Int.mul_le_mul q1 p1 (by omega) (by decide)
  rw [w64 (g * 2 ^ gat.toNat) (by omega)]
  rfl
end Go.Proofs.YtbmcofdodfcnnaaGreatDoor
