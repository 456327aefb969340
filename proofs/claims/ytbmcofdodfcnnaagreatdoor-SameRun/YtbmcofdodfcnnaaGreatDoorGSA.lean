import Derived.Test.YtbmcofdodfcnnaaGreatDoorGUI
import Derived.Test.YtbmcofdodfcnnaaGreatDoorGU8
namespace Pn
open Go
theorem tmod_bd (c : Int) (m : Nat) (h : 0 ≤ c) (hm : 0 < m) : ∃ r : Nat, c.tmod m = r ∧ r < m := by
  refine ⟨(c.tmod m).toNat, ?_, ?_⟩
  · have := Int.tmod_nonneg (m : Int) h; omega
  · have h1 := Int.tmod_lt_of_pos c (show (0 : Int) < m by omega)
    have := Int.tmod_nonneg (m : Int) h; omega
end Pn
namespace Go.Proofs.YtbmcofdodfcnnaaGreatDoor
open Go.RowKit
end Go.Proofs.YtbmcofdodfcnnaaGreatDoor
namespace Go.Proofs.YtbmcofdodfcnnaaGreatDoor
open Go.RowKit
end Go.Proofs.YtbmcofdodfcnnaaGreatDoor
namespace Go.Proofs.YtbmcofdodfcnnaaGreatDoor
open Go.RowKit
end Go.Proofs.YtbmcofdodfcnnaaGreatDoor
