import Derived.Test.YtbmcofdodfcnnaaGreatDoorKA
import Derived.Test.YtbmcofdodfcnnaaGreatDoorPE
import Derived.Test.YtbmcofdodfcnnaaGreatDoorW2
import Derived.Test.YtbmcofdodfcnnaaGreatDoorW3
namespace Go.Proofs.YtbmcofdodfcnnaaGreatDoor
open Go.RowKit

theorem registerRows_is (w : World) :
    Calls Tryz.prog 128 #[] w fun e w' => e = .returned (.agg (Pn.tabC 0 28)) ∧ w' = w.alloc (.cells (Pn.tabC 0 28) 180) :=
  calls_array (n := 29) (s := 0) (y := 29) (Z := Pn.tabZ 28) (m := 28) (e := 100) Tryz.func128 rfl (by kernel_rfl) rfl rfl rfl rfl rfl (by kernel_rfl) (by kernel_rfl) (by kernel_rfl) (by kernel_rfl) (by kernel_rfl)

theorem otherRows_is (w : World) :
    Calls Tryz.prog 129 #[] w fun e w' => e = .returned (.agg (Pn.tabC 28 36)) ∧ w' = w.alloc (.cells (Pn.tabC 28 36) 182) :=
  calls_array (n := 37) (s := 0) (y := 37) (Z := Pn.tabZ 36) (m := 36) (e := 100) Tryz.func129 rfl (by kernel_rfl) rfl rfl rfl rfl rfl (by kernel_rfl) (by kernel_rfl) (by kernel_rfl) (by kernel_rfl) (by kernel_rfl)

end Go.Proofs.YtbmcofdodfcnnaaGreatDoor
namespace Go.Proofs.YtbmcofdodfcnnaaGreatDoor
open Go.RowKit

theorem w64 (n : Int) (h : -9223372036854775808 ≤ n ∧ n ≤ 9223372036854775807) : wrap64 n = n := by unfold wrap64; omega

set_option maxHeartbeats 1000000 in
theorem ibits_is (n low width : Int) (w : World) (l0 : 0 ≤ low) (l1 : low ≤ 40) (w0 : 1 ≤ width) (w1 : width ≤ 32) :
    Calls Tryz.prog 112 #[.int .i64 n, .int .i64 low, .int .i64 width] w fun e w' => e = .returned (.int .i64 (Pn.bitz n (low + width - 1) low)) ∧ ∃ k, w' = w.drewN k := by
  go_enter Tryz.func112, Tryz.ntmps112
  go_wp2_with fail
  go_quiet (fail)
  go_wp2_with fail
  go_ret
  refine ⟨ret_int ?_, nq, rfl⟩
  have p0 := Pn.pow_pos width.toNat
  have p1 := Pn.pow_le62 (show width.toNat ≤ 62 by omega)
  have e1 : wrap64 (2 ^ width.toNat) = 2 ^ width.toNat := w64 _ (by omega)
  rw [e1]
  have e2 : wrap64 (2 ^ width.toNat - 1) = 2 ^ width.toNat - 1 := w64 _ (by omega)
  rw [e2]
  have e3 := Pn.andz_mask (n / 2 ^ low.toNat) width.toNat (by omega)
  unfold Pn.andz at e3
  rw [e3]
  unfold Pn.bitz Pn.bits
  have e4 : (low + width - 1).toNat - low.toNat + 1 = width.toNat := by omega
  rw [e4]

theorem rightRegister_is (n : Int) (t : Bool) (w : World) :
    Calls Tryz.prog 110 #[.int .i64 n, .bool t] w fun e w' => e = .returned (.bool (Pn.register t n)) ∧ w' = w := by
  cases t
  · go_enter Tryz.func110, Tryz.ntmps110
    go_wp2
    go_ret
    exact ⟨rfl, rfl⟩
  · go_enter Tryz.func110, Tryz.ntmps110
    go_wp2
    all_goals
      go_ret
      refine ⟨ret_val ?_, rfl⟩
      unfold Pn.register Pn.between
      first
      | (rw [decide_eq_true (p := 0 ≤ n) (by omega)]; rfl)
      | (rw [decide_eq_false (p := 0 ≤ n) (by omega)]; rfl)
end Go.Proofs.YtbmcofdodfcnnaaGreatDoor
