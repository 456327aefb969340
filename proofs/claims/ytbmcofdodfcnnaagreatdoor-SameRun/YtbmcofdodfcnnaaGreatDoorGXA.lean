import Derived.Test.YtbmcofdodfcnnaaGreatDoorGLA
import Derived.Test.YtbmcofdodfcnnaaGreatDoorGBG
import Derived.Test.YtbmcofdodfcnnaaGreatDoorGBC
import Derived.Lib.SplitLaws
import Derived.Test.YtbmcofdodfcnnaaGreatDoorGAW
import Derived.Test.YtbmcofdodfcnnaaGreatDoorVF
namespace Pn
open Go
structure Chk where
  size : Nat
  num : Int
  ins : Ins
def chk (l : List UInt8) : Chk :=
  if l.length < 2 then ⟨l.length, numN l, zIns⟩
  else if (expP (numN (l.take 2))).2 = 0 then ⟨2, numN (l.take 2), (expP (numN (l.take 2))).1⟩
  else if 4 ≤ l.length ∧ (dec (numN (l.take 4))).2 = 0 then ⟨4, numN (l.take 4), (dec (numN (l.take 4))).1⟩
  else ⟨2, numN (l.take 2), zIns⟩
theorem no_cut {T : List UInt8} (h : ∀ c ∈ T, c ≠ 35) : (Lib.cut T [35]).1 = T := by unfold Lib.cut; rw [idx_none T 35 h]; rfl
theorem names_other : ∀ k, k < 64 → Lib.hasPrefix (row k).name [99, 46] = false ∧ dsz (row k).name = 0 ∧ (row k).name ≠ [108, 105] ∧ nameB ([99, 46] ++ (row k).name) = true ∧ Lib.hasPrefix ([99, 46] ++ (row k).name) [99, 46] = true ∧ Lib.trimPrefix ([99, 46] ++ (row k).name) [99, 46] = (row k).name := by decide
end Pn
namespace Go.Proofs.YtbmcofdodfcnnaaGreatDoor
open Go.RowKit
theorem size_list (s : ByteArray) : s.data.toList.length = s.size := (Lib.size_eq s).symm
end Go.Proofs.YtbmcofdodfcnnaaGreatDoor
namespace Go.Proofs.YtbmcofdodfcnnaaGreatDoor
open Go.RowKit
theorem sz_mk (t : List UInt8) : (ByteArray.mk t.toArray).size = t.length := by simp [ByteArray.size]
end Go.Proofs.YtbmcofdodfcnnaaGreatDoor
