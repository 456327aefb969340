import Derived.Test.YtbmcofdodfcnnaaGreatDoorU3
import Derived.Test.YtbmcofdodfcnnaaGreatDoorShelf
namespace Pn
open Go Go.RowKit
def abv (a b : Int) : Int := if a < 0 then b else 0
def tru (t : Bool) : Int := if t = true then 1 else 0
theorem quoU_eq (a b : Int) : wrap64 (IntKind.u64.wrap ((IntKind.u64.wrap a).tdiv (IntKind.u64.wrap b))) = IntKind.i64.wrap (a % 18446744073709551616 / (b % 18446744073709551616)) := by
  rw [Go.Proofs.YtbmcofdodfcnnaaGreatDoor.wrap64_eq, wu64 a, wu64 b, Int.tdiv_eq_ediv_of_nonneg (by omega), wu64, IntKind.wrap_i64, IntKind.wrap_i64]
  omega
theorem remU_eq (a b : Int) : wrap64 ((IntKind.u64.wrap a).tmod (IntKind.u64.wrap b)) = IntKind.i64.wrap (a % 18446744073709551616 % (b % 18446744073709551616)) := by
  rw [Go.Proofs.YtbmcofdodfcnnaaGreatDoor.wrap64_eq, wu64 a, wu64 b, Int.tmod_eq_emod_of_nonneg (by omega)]
end Pn
namespace Go.Proofs.YtbmcofdodfcnnaaGreatDoor
open Go.RowKit
theorem wrap32_eq (n : Int) : wrap32 n = IntKind.i32.wrap n := by rw [IntKind.wrap_i32]; unfold wrap32; rfl
theorem quotient_is (a b : Int) (w : World) : Calls Tryz.prog 235 #[.int .i64 a, .int .i64 b] w fun e w' => e = .returned (.int .i64 (Pn.quo a b)) ∧ w' = w := by
  by_cases h : b = 0
  · subst h
    go_enter Tryz.func235, Tryz.ntmps235
    go_wp2
    go_ret
    exact ⟨rfl, rfl⟩
  · go_enter Tryz.func235, Tryz.ntmps235
    go_wp2
    go_ret
    exact ⟨retI (by simp only [Pn.quo, if_neg h]; exact wrap64_eq _), rfl⟩
theorem remainder_is (a b : Int) (w : World) : Calls Tryz.prog 237 #[.int .i64 a, .int .i64 b] w fun e w' => e = .returned (.int .i64 (Pn.rem' a b)) ∧ w' = w := by
  by_cases h : b = 0
  · subst h
    go_enter Tryz.func237, Tryz.ntmps237
    go_wp2
    go_ret
    exact ⟨rfl, rfl⟩
  · go_enter Tryz.func237, Tryz.ntmps237
    go_wp2
    go_ret
    exact ⟨retI (by simp only [Pn.rem', if_neg h]), rfl⟩
theorem quotientU_is (a b : Int) (w : World) (b0 : -9223372036854775808 ≤ b) (b1 : b < 9223372036854775808) : Calls Tryz.prog 236 #[.int .i64 a, .int .i64 b] w fun e w' => e = .returned (.int .i64 (Pn.quoU a b)) ∧ w' = w := by
  by_cases h : b = 0
  · subst h
    go_enter Tryz.func236, Tryz.ntmps236
    go_wp2
    go_ret
    exact ⟨rfl, rfl⟩
  · have hb : ¬ IntKind.u64.wrap b = 0 := by rw [Pn.wu64]; have := Pn.um_ne b b0 b1 h; omega
    go_enter Tryz.func236, Tryz.ntmps236
    go_wp2
    go_ret
    exact ⟨retI (by simp only [Pn.quoU, if_neg h]; exact Pn.quoU_eq a b), rfl⟩
theorem remainderU_is (a b : Int) (w : World) (b0 : -9223372036854775808 ≤ b) (b1 : b < 9223372036854775808) : Calls Tryz.prog 238 #[.int .i64 a, .int .i64 b] w fun e w' => e = .returned (.int .i64 (Pn.remU a b)) ∧ w' = w := by
  by_cases h : b = 0
  · subst h
    go_enter Tryz.func238, Tryz.ntmps238
    go_wp2
    go_ret
    exact ⟨rfl, rfl⟩
  · have hb : ¬ IntKind.u64.wrap b = 0 := by rw [Pn.wu64]; have := Pn.um_ne b b0 b1 h; omega
    go_enter Tryz.func238, Tryz.ntmps238
    go_wp2
    go_ret
    exact ⟨retI (by simp only [Pn.remU, if_neg h]; exact Pn.remU_eq a b), rfl⟩
theorem low_is (a : Int) (w : World) : Calls Tryz.prog 265 #[.int .i64 a] w fun e w' => e = .returned (.int .i64 (Pn.low a)) ∧ w' = w := by
  go_enter Tryz.func265, Tryz.ntmps265
  go_wp2
  go_ret
  exact ⟨retI (by rw [wrap64_eq, wrap32_eq]; have := Pn.low_bd a; unfold Pn.low at *; rw [IntKind.wrap_i64]; omega), rfl⟩
theorem lowU_is (a : Int) (w : World) : Calls Tryz.prog 266 #[.int .i64 a] w fun e w' => e = .returned (.int .i64 (a % 4294967296)) ∧ w' = w := by
  go_enter Tryz.func266, Tryz.ntmps266
  go_wp2
  go_ret
  exact ⟨rfl, rfl⟩
theorem above_is (a b : Int) (w : World) : Calls Tryz.prog 234 #[.int .i64 a, .int .i64 b] w fun e w' => e = .returned (.int .i64 (Pn.abv a b)) ∧ w' = w := by
  by_cases h : a < 0
  all_goals
    go_enter Tryz.func234, Tryz.ntmps234
    go_wp2
    go_ret
    exact ⟨retI (by unfold Pn.abv; first | (rw [if_pos (by assumption)]; done) | (rw [if_neg (by omega)]; done)), rfl⟩
theorem truth_is (t : Bool) (w : World) : Calls Tryz.prog 200 #[.bool t] w fun e w' => e = .returned (.int .i64 (Pn.tru t)) ∧ w' = w := by
  cases t
  all_goals
    go_enter Tryz.func200, Tryz.ntmps200
    go_wp2
    go_ret
    exact ⟨rfl, rfl⟩
theorem high_is (a b : Int) (w : World) :
    Calls Tryz.prog 233 #[.int .i64 a, .int .i64 b] w fun e w' => e = .returned (.int .i64 (Pn.high a b)) ∧ w' = w := by
  obtain ⟨x, hx⟩ := Int.eq_ofNat_of_zero_le (show 0 ≤ a % 18446744073709551616 by omega)
  obtain ⟨y, hy⟩ := Int.eq_ofNat_of_zero_le (show 0 ≤ b % 18446744073709551616 by omega)
  have hx' : IntKind.u64.wrap a = (x : Int) := by rw [Pn.wu64, hx]
  have hy' : IntKind.u64.wrap b = (y : Int) := by rw [Pn.wu64, hy]
  go_enter Tryz.func233, Tryz.ntmps233
  go_wp2_with (go_at_call 264; refine (Tryz.bits_Mul64 x y (by omega) (by omega) _).mono ?_; rintro e w' ⟨rfl, rfl⟩)
  go_ret
  exact ⟨retI (by rw [wrap64_eq]; unfold Pn.high; rw [hx, hy]), rfl⟩
end Go.Proofs.YtbmcofdodfcnnaaGreatDoor
