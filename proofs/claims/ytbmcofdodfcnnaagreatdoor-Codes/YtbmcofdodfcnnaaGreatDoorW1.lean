import Derived.Test.YtbmcofdodfcnnaaGreatDoorW0
import Derived.Test.YtbmcofdodfcnnaaGreatDoorK0
import Derived.Test.YtbmcofdodfcnnaaGreatDoorPA
namespace Go.Proofs.YtbmcofdodfcnnaaGreatDoor
open Go.RowKit

theorem rows_any (w : World) :
    Calls Tryz.prog 157 #[] w fun e w' => e = .returned (.slice (some ⟨w.heap.size, 0, none⟩) 64 64) ∧ w' = w.alloc (.cells Pn.rowsCells 214) :=
  calls_run _ _ Tryz.func157 rfl (by kernel_rfl)

theorem rows_is (w : World) :
    Calls Tryz.prog 157 #[] w fun e w' => ∃ C, Pn.RowsC C ∧ e = .returned (.slice (some ⟨w.heap.size, 0, none⟩) 64 64) ∧ w' = w.alloc (.cells C 214) :=
  (rows_any w).mono fun _ _ h => ⟨_, Pn.rowsC, h⟩

end Go.Proofs.YtbmcofdodfcnnaaGreatDoor
