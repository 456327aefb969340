import Derived.Test.YtbmcofdodfcnnaaGreatDoorW8
import Derived.Test.YtbmcofdodfcnnaaGreatDoorPD
import Derived.Deep.CutBlock
import Derived.OneCell
import Derived.Deep.DeepCutAuto
namespace Go.Proofs.YtbmcofdodfcnnaaGreatDoor
open Go.RowKit

theorem hide {p : Prop} (h : p) : Hid p := h
theorem unhide {p : Prop} (h : Hid p) : p := h

theorem small_is (c : Int) (w : World) :
    Calls Tryz.prog 207 #[.int .u8 c] w fun e w' => e = .returned (.bool (Pn.smallB c)) ∧ w' = w := by
  go_enter Tryz.func207, Tryz.ntmps207
  go_wp2
  all_goals
    go_ret
    refine ⟨ret_val ?_, rfl⟩
    unfold Pn.smallB
    first
    | (rw [decide_eq_true (p := 97 ≤ c) (by omega)]; rfl)
    | (rw [decide_eq_false (p := 97 ≤ c) (by omega)]; rfl)
theorem digit_is (c : Int) (w : World) :
    Calls Tryz.prog 208 #[.int .u8 c] w fun e w' => e = .returned (.bool (Pn.digitB c)) ∧ w' = w := by
  go_enter Tryz.func208, Tryz.ntmps208
  go_wp2
  all_goals
    go_ret
    refine ⟨ret_val ?_, rfl⟩
    unfold Pn.digitB
    first
    | (rw [decide_eq_true (p := 48 ≤ c) (by omega)]; rfl)
    | (rw [decide_eq_false (p := 48 ≤ c) (by omega)]; rfl)

end Go.Proofs.YtbmcofdodfcnnaaGreatDoor
