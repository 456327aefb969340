import Derived.Test.YtbmcofdodfcnnaaGreatDoorProg
import Derived.Test.YtbmcofdodfcnnaaGreatDoorGP
import Derived.WalkKit
import Derived.WalkSpells
import Derived.WalkLawsBesides
import Derived.Test.YtbmcofdodfcnnaaGreatDoorGK
import Derived.Deep.RegionWith
import Derived.Deep.QuietTactic
import Derived.BigQuiet
import Derived.Deep.DeepCutAuto
import Derived.IntWalk
namespace Go.Proofs.YtbmcofdodfcnnaaGreatDoor
open Go.RowKit
theorem ret_int {k : IntKind} {a b : Int} (h : a = b) : Ending.returned (.int k a) = .returned (.int k b) := by rw [h]
end Go.Proofs.YtbmcofdodfcnnaaGreatDoor
namespace Go.Proofs.YtbmcofdodfcnnaaGreatDoor
open Go.RowKit
end Go.Proofs.YtbmcofdodfcnnaaGreatDoor
namespace Go.Proofs.YtbmcofdodfcnnaaGreatDoor
open Go.RowKit
theorem ret_val {a b : Value} (h : a = b) : Ending.returned a = .returned b := by rw [h]
end Go.Proofs.YtbmcofdodfcnnaaGreatDoor
namespace Go.Proofs.YtbmcofdodfcnnaaGreatDoor
open Go.RowKit
end Go.Proofs.YtbmcofdodfcnnaaGreatDoor
