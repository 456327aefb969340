import Derived.Test.YtbmcofdodfcnnaaGreatDoorV10
import Derived.Test.YtbmcofdodfcnnaaGreatDoorGY
import Derived.Test.YtbmcofdodfcnnaaGreatDoorGQ
import Derived.Lib.OthersKept
namespace Go.Proofs.YtbmcofdodfcnnaaGreatDoor
open Go.RowKit
theorem showRegister_is (n : Int) (w : World) (h0 : -9223372036854775808 ≤ n) (h1 : n ≤ 9223372036854775807) (hE : Env w) :
    Calls Tryz.prog 113 #[.int .i64 n] w fun e w' => ∃ s : ByteArray, e = .returned (.string s) ∧ s.size ≤ 22 ∧ Hid (s.data.toList = Pn.regL n) ∧ Below w.heap.size w w' := by
  go_enter Tryz.func113, Tryz.ntmps113
  go_wp2_with fail
  refine (itoa_is n _ h0 h1 hE).mono ?_
  rintro e w1 ⟨s, rfl, hs, HS, hB⟩
  have HB := hide hB
  clear hB
  go_wp2_with fail
  go_ret
  refine ⟨_, rfl, ?_, ?_, HB.out⟩
  · have : (⟨#[120]⟩ ++ s : ByteArray).size = 1 + s.size := by rw [ByteArray.size_append]; rfl
    omega
  · show (⟨#[120]⟩ ++ s : ByteArray).data.toList = _
    rw [bdata, HS.out]; rfl
set_option maxHeartbeats 1000000 in
theorem shapeOf_is (kd : Nat) (hk : Pn.kindsOk kd) (w : World) :
    Calls Tryz.prog 62 #[.int .i64 (Pn.kdI kd)] w fun e w' => e = .returned (.string ⟨(Pn.shp kd).toArray⟩) ∧ w' = w := by
  rcases hk with rfl | rfl | rfl | rfl | rfl | rfl | rfl | rfl | rfl | rfl
  all_goals
    simp only [Pn.kdI]
    go_enter Tryz.func62, Tryz.ntmps62
    go_wp2_with fail
    go_ret
    exact ⟨rfl, rfl⟩
end Go.Proofs.YtbmcofdodfcnnaaGreatDoor
namespace Go.Proofs.YtbmcofdodfcnnaaGreatDoor
open Go.RowKit
theorem iter_below (w : World) (k : Nat) (s : ByteArray) (pos : Nat) : Below k w (w.iterAt k s pos) := Lib.below_iterAt (Below.refl _ _) (Nat.le_refl _) s pos
end Go.Proofs.YtbmcofdodfcnnaaGreatDoor
