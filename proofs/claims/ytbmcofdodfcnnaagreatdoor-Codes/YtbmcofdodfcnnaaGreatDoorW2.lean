import Derived.Test.YtbmcofdodfcnnaaGreatDoorW1
import Derived.Test.YtbmcofdodfcnnaaGreatDoorPA
namespace Go.Proofs.YtbmcofdodfcnnaaGreatDoor
open Go.RowKit

theorem ret_val {a b : Value} (h : a = b) : Ending.returned a = .returned b := by rw [h]
set_option maxHeartbeats 400000 in
theorem has_any (k : Nat) (w : World) :
    Calls Tryz.prog 160 #[.int .u8 k] w fun e w' => e = .returned (.tuple #[.bool (Pn.has k).1, .bool (Pn.has k).2.1, .bool (Pn.has k).2.2]) ∧ w' = w := by
  go_enter Tryz.func160, Tryz.ntmps160
  go_wp2
  all_goals
    go_ret3
    refine ⟨ret_val ?_, rfl⟩
    simp only [beq_iff_eq, beq_eq_false_iff_ne, ne_eq] at *
    unfold Pn.has
    first
    | (rw [if_pos (by omega)]; rfl)
    | (rw [if_neg (by omega), if_pos (by omega)]; rfl)
    | (rw [if_neg (by omega), if_neg (by omega), if_pos (by omega)]; rfl)
    | (rw [if_neg (by omega), if_neg (by omega), if_neg (by omega), if_pos (by omega)]; rfl)
    | (rw [if_neg (by omega), if_neg (by omega), if_neg (by omega), if_neg (by omega)]; rfl)

set_option maxHeartbeats 400000 in
theorem between_any (n lo hi : Int) (w : World) :
    Calls Tryz.prog 240 #[.int .i64 n, .int .i64 lo, .int .i64 hi] w fun e w' => e = .returned (.bool (Pn.between n lo hi)) ∧ w' = w := by
  go_enter Tryz.func240, Tryz.ntmps240
  go_wp2
  all_goals
    go_ret
    refine ⟨ret_val ?_, rfl⟩
    unfold Pn.between
    first
    | (rw [decide_eq_true (p := lo ≤ n) (by omega)]; rfl)
    | (rw [decide_eq_false (p := lo ≤ n) (by omega)]; rfl)

set_option maxHeartbeats 400000 in
theorem register_any (t : Bool) (n : Int) (w : World) :
    Calls Tryz.prog 205 #[.bool t, .int .i64 n] w fun e w' => e = .returned (.bool (Pn.register t n)) ∧ w' = w := by
  cases t
  · go_enter Tryz.func205, Tryz.ntmps205
    go_wp2
    go_ret
    exact ⟨rfl, rfl⟩
  · go_enter Tryz.func205, Tryz.ntmps205
    go_wp2_with (go_at_call 240; refine (between_any _ _ _ _).mono ?_; rintro e w' ⟨rfl, rfl⟩)
    go_ret
    exact ⟨rfl, rfl⟩

set_option maxHeartbeats 1000000 in
theorem fitsImm_any (k : Nat) (n : Int) (w : World) :
    Calls Tryz.prog 206 #[.int .u8 k, .int .i64 n] w fun e w' => e = .returned (.bool (Pn.fitsImm k n)) ∧ w' = w := by
  go_enter Tryz.func206, Tryz.ntmps206
  go_wp2_with (go_at_call 240; refine (between_any _ _ _ _).mono ?_; rintro e w' ⟨rfl, rfl⟩)
  all_goals
    go_ret
    refine ⟨ret_val ?_, rfl⟩
    simp only [beq_iff_eq, beq_eq_false_iff_ne, ne_eq, Bool.not_eq_true] at *
    unfold Pn.fitsImm
    first
    | (rw [if_pos (by omega)]; rfl)
    | (rw [if_neg (by omega), if_pos (by omega)]; rfl)
    | (rw [if_neg (by omega), if_neg (by omega), if_pos (by omega)]; rfl)
    | (rw [if_neg (by omega), if_neg (by omega), if_neg (by omega), if_pos (by omega), ‹Pn.between _ _ _ = _›]; rfl)
    | (rw [if_neg (by omega), if_neg (by omega), if_neg (by omega), if_neg (by omega), if_pos (by omega)]; rfl)
    | (rw [if_neg (by omega), if_neg (by omega), if_neg (by omega), if_neg (by omega), if_neg (by omega), if_pos (by omega), ‹Pn.between _ _ _ = _›]; rfl)
    | (rw [if_neg (by omega), if_neg (by omega), if_neg (by omega), if_neg (by omega), if_neg (by omega), if_neg (by omega)]; rfl)

end Go.Proofs.YtbmcofdodfcnnaaGreatDoor
