import Derived.Test.YtopndaheedpfpaaGreatDoorW0
import Derived.Test.YtopndaheedpfpaaGreatDoorK0
import Derived.Test.YtopndaheedpfpaaGreatDoorPA
namespace Go.Proofs.YtopndaheedpfpaaGreatDoor
open Go.RowKit

theorem rows_any (w : World) :
    Calls Tryz.prog 47 #[] w fun e w' => e = .returned (.slice (some ⟨w.heap.size, 0, none⟩) 64 64) ∧ w' = w.alloc (.cells Pn.rowsCells 83) :=
  calls_run _ _ Tryz.func47 rfl (by kernel_rfl)

theorem rows_is (w : World) :
    Calls Tryz.prog 47 #[] w fun e w' => ∃ C, Pn.RowsC C ∧ e = .returned (.slice (some ⟨w.heap.size, 0, none⟩) 64 64) ∧ w' = w.alloc (.cells C 83) :=
  (rows_any w).mono fun _ _ h => ⟨_, Pn.rowsC, h⟩

end Go.Proofs.YtopndaheedpfpaaGreatDoor
