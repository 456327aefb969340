import Derived.Test.YtbmcofdodfcnnaaGreatDoorGU1
import Derived.Test.YtbmcofdodfcnnaaGreatDoorShelf
namespace Pn
open Go Go.RowKit
def abv (a b : Int) : Int := if a < 0 then b else 0
def tru (t : Bool) : Int := if t = true then 1 else 0
theorem quoU_eq (a b : Int) : wrap64 (IntKind.u64.wrap ((IntKind.u64.wrap a).tdiv (IntKind.u64.wrap b))) = IntKind.i64.wrap (a % 18446744073709551616 / (b % 18446744073709551616)) := by
  rw [Go.Proofs.YtbmcofdodfcnnaaGreatDoor.wrap64_eq, wu64 a, wu64 b, Int.tdiv_eq_ediv_of_nonneg (by omega), wu64, IntKind.wrap_i64, IntKind.wrap_i64]
  omega
theorem remU_eq (a b : Int) : wrap64 ((IntKind.u64.wrap a).tmod (IntKind.u64.wrap b)) = IntKind.i64.wrap (a % 18446744073709551616 % (b % 18446744073709551616)) := by
  rw [Go.Proofs.YtbmcofdodfcnnaaGreatDoor.wrap64_eq, wu64 a, wu64 b, Int.tmod_eq_emod_of_nonneg (by omega)]
end Pn
namespace Go.Proofs.YtbmcofdodfcnnaaGreatDoor
open Go.RowKit
theorem wrap32_eq (n : Int) : wrap32 n = IntKind.i32.wrap n := by rw [IntKind.wrap_i32]; unfold wrap32; rfl
theorem quotient_is (a b : Int) (w : World) : Calls Tryz.prog 235 #[.int .i64 a, .int .i64 b] w fun e w' => e = .returned (.int .i64 (Pn.quo a b)) ∧ w' = w := by
  by_cases h : b = 0
  · subst h
    go_enter Tryz.func235, Tryz.ntmps235
    go_wp2
    go_ret
    exact ⟨rfl, rfl⟩
  · go_enter Tryz.func235, Tryz.ntmps235
    go_wp2
    go_ret
    exact ⟨retI (by simp only [Pn.quo, if_neg h]; exact wrap64_eq _), rfl⟩
theorem remainder_is (a b : Int) (w : World) : Calls Tryz.prog 237 #[.int .i64 a, .int .i64 b] w fun e w' => e = .returned (.int .i64 (Pn.rem' a b)) ∧ w' = w := by
  by_cases h : b = 0
  · subst h
    go_enter Tryz.func237, Tryz.ntmps237
    go_wp2
    go_ret
    exact ⟨rfl, rfl⟩
  · go_enter Tryz.func237, Tryz.ntmps237
    go_wp2
    go_ret
    exact ⟨retI (by simp only [Pn.rem', if_neg h]), rfl⟩
theorem quotientU_is (a b : Int) (w : World) (b0 : -9223372036854775808 ≤ b) (b1 : b < 9223372036854775808) : Calls Tryz.prog 236 #[.int .i64 a, .int .i64 b] w fun e w' => e = .returned (.int .i64 (Pn.quoU a b)) ∧ w' = w := by
  by_cases h : b = 0
  · subst h
    go_enter Tryz.func236, Tryz.ntmps236
    go_wp2
    go_ret
    exact ⟨rfl, rfl⟩
  · have hb : ¬ IntKind.u64.wrap b = 0 := by rw [Pn.wu64]; have := Pn.um_ne b b0 b1 h; omega
    go_enter Tryz.func236, Tryz.ntmps236
    go_wp2
    go_ret
    exact ⟨retI (by simp only [Pn.quoU, if_neg h]; exact Pn.quoU_eq a b), rfl⟩
theorem remainderU_is (a b : Int) (w : World) (b0 : -9223372036854775808 ≤ b) (b1 : b < 9223372036854775808) : Calls Tryz.prog 238 #[.int .i64 a, .int .i64 b] w fun e w' => e = .returned (.int .i64 (Pn.remU a b)) ∧ w' = w := by
  by_cases h : b = 0
  · subst h
    go_enter Tryz.func238, Tryz.ntmps238
    go_wp2
    go_ret
    exact ⟨rfl, rfl⟩
  · have hb : ¬ IntKind.u64.wrap b = 0 := by rw [Pn.wu64]; have := Pn.um_ne b b0 b1 h; omega
    go_enter Tryz.func238, Tryz.ntmps238
    go_wp2
    go_ret
    exact ⟨retI (by simp only [Pn.remU, if_neg h]; exact Pn.remU_eq a b), rfl⟩
theorem low_is (a : Int) (w : World) : Calls Tryz.prog 265 #[.int .i64 a] w fun e w' => e = .returned (.int .i64 (Pn.low a)) ∧ w' = w := by
  go_enter Tryz.func265, Tryz.ntmps265
  go_wp2
  go_ret
  exact ⟨retI (by rw [wrap64_eq, wrap32_eq]; have := Pn.low_bd a; unfold Pn.low at *; rw [IntKind.wrap_i64]; omega), rfl⟩
theorem lowU_is (a : Int) (w : World) : Calls Tryz.prog 266 #[.int .i64 a] w fun e w' => e = .returned (.int .i64 (a % 4294967296)) ∧ w' = w := by
  go_enter Tryz.func266, Tryz.ntmps266
  go_wp2
  go_ret
  exact ⟨rfl, rfl⟩
theorem above_is (a b : Int) (w : World) : Calls Tryz.prog 234 #[.int .i64 a, .int .i64 b] w fun e w' => e = .returned (.int .i64 (Pn.abv a b)) ∧ w' = w := by
  by_cases h : a < 0
  all_goals
    go_enter Tryz.func234, Tryz.ntmps234
    go_wp2
    go_ret
    exact ⟨retI (by unfold Pn.abv; first | (rw [if_pos (by assumption)]; done) | (rw [if_neg (by omega)]; done)), rfl⟩
theorem truth_is (t : Bool) (w : World) : Calls Tryz.prog 200 #[.bool t] w fun e w' => e = .returned (.int .i64 (Pn.tru t)) ∧ w' = w := by
  cases t
  all_goals
    go_enter Tryz.func200, Tryz.ntmps200
    go_wp2
    go_ret
    exact ⟨rfl, rfl⟩
theorem high_is (a b : Int) (w : World) :
    Calls Tryz.prog 233 #[.int .i64 a, .int .i64 b] w fun e w' => e = .returned (.int .i64 (Pn.high a b)) ∧ w' = w := by
  obtain ⟨x, hx⟩ := Int.eq_ofNat_of_zero_le (show 0 ≤ a % 18446744073709551616 by omega)
  obtain ⟨y, hy⟩ := Int.eq_ofNat_of_zero_le (show 0 ≤ b % 18446744073709551616 by omega)
  have hx' : IntKind.u64.wrap a = (x : Int) := by rw [Pn.wu64, hx]
  have hy' : IntKind.u64.wrap b = (y : Int) := by rw [Pn.wu64, hy]
  go_enter Tryz.func233, Tryz.ntmps233
  go_wp2_with (go_at_call 264; refine (Tryz.bits_Mul64 x y (by omega) (by omega) _).mono ?_; rintro e w' ⟨rfl, rfl⟩)
  go_ret
  exact ⟨retI (by rw [wrap64_eq]; unfold Pn.high; rw [hx, hy]), rfl⟩
end Go.Proofs.YtbmcofdodfcnnaaGreatDoor
namespace Pn
open Go Go.RowKit
def comp (op : Nat) (a b : Int) : Int := match op with
  | 1 => IntKind.i64.wrap (a + b)
  | 2 => IntKind.i64.wrap (a - b)
  | 3 => IntKind.i64.wrap (a * 2 ^ (b % 64).toNat)
  | 4 => tru (decide (a < b))
  | 5 => tru (decide (a % 18446744073709551616 < b % 18446744073709551616))
  | 6 => Go.bits .xor .i64 a b
  | 7 => IntKind.i64.wrap (a % 18446744073709551616 / 2 ^ (b % 64).toNat)
  | 8 => a / 2 ^ (b % 64).toNat
  | 9 => orz a b
  | 10 => andz a b
  | 11 => IntKind.i64.wrap (a * b)
  | 12 => IntKind.i64.wrap (IntKind.i64.wrap (high a b - abv a b) - abv b a)
  | 13 => IntKind.i64.wrap (high a b - abv a b)
  | 14 => high a b
  | 15 => quo a b
  | 16 => quoU a b
  | 17 => rem' a b
  | 18 => remU a b
  | 19 => low (a + b)
  | 20 => low (a - b)
  | 21 => low (a * 2 ^ (b % 32).toNat)
  | 22 => low (a % 4294967296 / 2 ^ (b % 32).toNat)
  | 23 => low a / 2 ^ (b % 32).toNat
  | 24 => low (a * b)
  | 25 => low (quo (low a) (low b))
  | 26 => low (quoU (a % 4294967296) (b % 4294967296))
  | 27 => rem' (low a) (low b)
  | 28 => low (remU (a % 4294967296) (b % 4294967296))
  | 29 => IntKind.i64.wrap (a + b)
  | 30 => tru (decide (a < b))
  | 31 => tru (decide (a % 18446744073709551616 < b % 18446744073709551616))
  | 32 => Go.bits .xor .i64 a b
  | 33 => orz a b
  | 34 => andz a b
  | 35 => IntKind.i64.wrap (a * 2 ^ (b % 64).toNat)
  | 36 => IntKind.i64.wrap (a % 18446744073709551616 / 2 ^ (b % 64).toNat)
  | 37 => a / 2 ^ (b % 64).toNat
  | 38 => low (a + b)
  | 39 => low (a * 2 ^ (b % 32).toNat)
  | 40 => low (a % 4294967296 / 2 ^ (b % 32).toNat)
  | 41 => low a / 2 ^ (b % 32).toNat
  | _ => 0
theorem low_wrap (x : Int) : low (IntKind.i64.wrap x) = low x := by
  unfold low
  rw [IntKind.wrap_i32, IntKind.wrap_i32, IntKind.wrap_i64]
  omega
end Pn
namespace Go.Proofs.YtbmcofdodfcnnaaGreatDoor
open Go.RowKit
theorem comp_1 (a b : Int) (w : World) (_ : -9223372036854775808 ≤ a) (_ : a < 9223372036854775808) (_ : -9223372036854775808 ≤ b) (_ : b < 9223372036854775808) :
    Calls Tryz.prog 150 #[.int .i64 1, .int .i64 a, .int .i64 b] w fun e w' => e = .returned (.int .i64 (Pn.comp 1 a b)) ∧ w' = w := by
  go_enter Tryz.func150, Tryz.ntmps150
  go_wp2_with (first
    | (go_at_call 200; refine (truth_is _ _).mono ?_; rintro e w' ⟨rfl, rfl⟩)
    | (go_at_call 235; refine (quotient_is _ _ _).mono ?_; rintro e w' ⟨rfl, rfl⟩)
    | (go_at_call 237; refine (remainder_is _ _ _).mono ?_; rintro e w' ⟨rfl, rfl⟩)
    | (go_at_call 236; refine (quotientU_is _ _ _ (by omega) (by omega)).mono ?_; rintro e w' ⟨rfl, rfl⟩)
    | (go_at_call 238; refine (remainderU_is _ _ _ (by omega) (by omega)).mono ?_; rintro e w' ⟨rfl, rfl⟩)
    | (go_at_call 265; refine (low_is _ _).mono ?_; rintro e w' ⟨rfl, rfl⟩)
    | (go_at_call 266; refine (lowU_is _ _).mono ?_; rintro e w' ⟨rfl, rfl⟩)
    | (go_at_call 234; refine (above_is _ _ _).mono ?_; rintro e w' ⟨rfl, rfl⟩)
    | (go_at_call 233; refine (high_is _ _ _).mono ?_; rintro e w' ⟨rfl, rfl⟩)
    | go_in)
  go_ret
  refine ⟨retI ?_, rfl⟩
  show _ = IntKind.i64.wrap (a + b)
  exact wrap64_eq _
theorem comp_2 (a b : Int) (w : World) (_ : -9223372036854775808 ≤ a) (_ : a < 9223372036854775808) (_ : -9223372036854775808 ≤ b) (_ : b < 9223372036854775808) :
    Calls Tryz.prog 150 #[.int .i64 2, .int .i64 a, .int .i64 b] w fun e w' => e = .returned (.int .i64 (Pn.comp 2 a b)) ∧ w' = w := by
  go_enter Tryz.func150, Tryz.ntmps150
  go_wp2_with (first
    | (go_at_call 200; refine (truth_is _ _).mono ?_; rintro e w' ⟨rfl, rfl⟩)
    | (go_at_call 235; refine (quotient_is _ _ _).mono ?_; rintro e w' ⟨rfl, rfl⟩)
    | (go_at_call 237; refine (remainder_is _ _ _).mono ?_; rintro e w' ⟨rfl, rfl⟩)
    | (go_at_call 236; refine (quotientU_is _ _ _ (by omega) (by omega)).mono ?_; rintro e w' ⟨rfl, rfl⟩)
    | (go_at_call 238; refine (remainderU_is _ _ _ (by omega) (by omega)).mono ?_; rintro e w' ⟨rfl, rfl⟩)
    | (go_at_call 265; refine (low_is _ _).mono ?_; rintro e w' ⟨rfl, rfl⟩)
    | (go_at_call 266; refine (lowU_is _ _).mono ?_; rintro e w' ⟨rfl, rfl⟩)
    | (go_at_call 234; refine (above_is _ _ _).mono ?_; rintro e w' ⟨rfl, rfl⟩)
    | (go_at_call 233; refine (high_is _ _ _).mono ?_; rintro e w' ⟨rfl, rfl⟩)
    | go_in)
  go_ret
  refine ⟨retI ?_, rfl⟩
  show _ = IntKind.i64.wrap (a - b)
  exact wrap64_eq _
theorem comp_3 (a b : Int) (w : World) (_ : -9223372036854775808 ≤ a) (_ : a < 9223372036854775808) (_ : -9223372036854775808 ≤ b) (_ : b < 9223372036854775808) :
    Calls Tryz.prog 150 #[.int .i64 3, .int .i64 a, .int .i64 b] w fun e w' => e = .returned (.int .i64 (Pn.comp 3 a b)) ∧ w' = w := by
  have hq : Go.bits .and .i64 b 63 = ((b % 64).toNat : Int) := (Pn.andz_ones b 6 63 rfl (by decide)).trans (by have : (2:Int) ^ 6 = 64 := (by decide); rw [this]; omega)
  have hk : (b % 64).toNat ≤ 63 := by omega
  generalize hkk : (b % 64).toNat = k at *
  have HK := (show Hid _ from hkk)
  clear hkk
  go_enter Tryz.func150, Tryz.ntmps150
  go_wp2_with (first
    | (go_at_call 200; refine (truth_is _ _).mono ?_; rintro e w' ⟨rfl, rfl⟩)
    | (go_at_call 235; refine (quotient_is _ _ _).mono ?_; rintro e w' ⟨rfl, rfl⟩)
    | (go_at_call 237; refine (remainder_is _ _ _).mono ?_; rintro e w' ⟨rfl, rfl⟩)
    | (go_at_call 236; refine (quotientU_is _ _ _ (by omega) (by omega)).mono ?_; rintro e w' ⟨rfl, rfl⟩)
    | (go_at_call 238; refine (remainderU_is _ _ _ (by omega) (by omega)).mono ?_; rintro e w' ⟨rfl, rfl⟩)
    | (go_at_call 265; refine (low_is _ _).mono ?_; rintro e w' ⟨rfl, rfl⟩)
    | (go_at_call 266; refine (lowU_is _ _).mono ?_; rintro e w' ⟨rfl, rfl⟩)
    | (go_at_call 234; refine (above_is _ _ _).mono ?_; rintro e w' ⟨rfl, rfl⟩)
    | (go_at_call 233; refine (high_is _ _ _).mono ?_; rintro e w' ⟨rfl, rfl⟩)
    | go_in)
  go_ret
  refine ⟨retI ?_, rfl⟩
  show _ = IntKind.i64.wrap (a * 2 ^ (b % 64).toNat)
  rw [HK.out]
  exact wrap64_eq _
theorem comp_4 (a b : Int) (w : World) (_ : -9223372036854775808 ≤ a) (_ : a < 9223372036854775808) (_ : -9223372036854775808 ≤ b) (_ : b < 9223372036854775808) :
    Calls Tryz.prog 150 #[.int .i64 4, .int .i64 a, .int .i64 b] w fun e w' => e = .returned (.int .i64 (Pn.comp 4 a b)) ∧ w' = w := by
  go_enter Tryz.func150, Tryz.ntmps150
  go_wp2_with (first
    | (go_at_call 200; refine (truth_is _ _).mono ?_; rintro e w' ⟨rfl, rfl⟩)
    | (go_at_call 235; refine (quotient_is _ _ _).mono ?_; rintro e w' ⟨rfl, rfl⟩)
    | (go_at_call 237; refine (remainder_is _ _ _).mono ?_; rintro e w' ⟨rfl, rfl⟩)
    | (go_at_call 236; refine (quotientU_is _ _ _ (by omega) (by omega)).mono ?_; rintro e w' ⟨rfl, rfl⟩)
    | (go_at_call 238; refine (remainderU_is _ _ _ (by omega) (by omega)).mono ?_; rintro e w' ⟨rfl, rfl⟩)
    | (go_at_call 265; refine (low_is _ _).mono ?_; rintro e w' ⟨rfl, rfl⟩)
    | (go_at_call 266; refine (lowU_is _ _).mono ?_; rintro e w' ⟨rfl, rfl⟩)
    | (go_at_call 234; refine (above_is _ _ _).mono ?_; rintro e w' ⟨rfl, rfl⟩)
    | (go_at_call 233; refine (high_is _ _ _).mono ?_; rintro e w' ⟨rfl, rfl⟩)
    | go_in)
  go_ret
  refine ⟨retI ?_, rfl⟩
  show _ = Pn.tru (decide (a < b))
  rfl
theorem comp_5 (a b : Int) (w : World) (_ : -9223372036854775808 ≤ a) (_ : a < 9223372036854775808) (_ : -9223372036854775808 ≤ b) (_ : b < 9223372036854775808) :
    Calls Tryz.prog 150 #[.int .i64 5, .int .i64 a, .int .i64 b] w fun e w' => e = .returned (.int .i64 (Pn.comp 5 a b)) ∧ w' = w := by
  go_enter Tryz.func150, Tryz.ntmps150
  go_wp2_with (first
    | (go_at_call 200; refine (truth_is _ _).mono ?_; rintro e w' ⟨rfl, rfl⟩)
    | (go_at_call 235; refine (quotient_is _ _ _).mono ?_; rintro e w' ⟨rfl, rfl⟩)
    | (go_at_call 237; refine (remainder_is _ _ _).mono ?_; rintro e w' ⟨rfl, rfl⟩)
    | (go_at_call 236; refine (quotientU_is _ _ _ (by omega) (by omega)).mono ?_; rintro e w' ⟨rfl, rfl⟩)
    | (go_at_call 238; refine (remainderU_is _ _ _ (by omega) (by omega)).mono ?_; rintro e w' ⟨rfl, rfl⟩)
    | (go_at_call 265; refine (low_is _ _).mono ?_; rintro e w' ⟨rfl, rfl⟩)
    | (go_at_call 266; refine (lowU_is _ _).mono ?_; rintro e w' ⟨rfl, rfl⟩)
    | (go_at_call 234; refine (above_is _ _ _).mono ?_; rintro e w' ⟨rfl, rfl⟩)
    | (go_at_call 233; refine (high_is _ _ _).mono ?_; rintro e w' ⟨rfl, rfl⟩)
    | go_in)
  go_ret
  refine ⟨retI ?_, rfl⟩
  show _ = Pn.tru (decide (a % 18446744073709551616 < b % 18446744073709551616))
  simp only [Pn.wu64]
theorem comp_6 (a b : Int) (w : World) (_ : -9223372036854775808 ≤ a) (_ : a < 9223372036854775808) (_ : -9223372036854775808 ≤ b) (_ : b < 9223372036854775808) :
    Calls Tryz.prog 150 #[.int .i64 6, .int .i64 a, .int .i64 b] w fun e w' => e = .returned (.int .i64 (Pn.comp 6 a b)) ∧ w' = w := by
  go_enter Tryz.func150, Tryz.ntmps150
  go_wp2_with (first
    | (go_at_call 200; refine (truth_is _ _).mono ?_; rintro e w' ⟨rfl, rfl⟩)
    | (go_at_call 235; refine (quotient_is _ _ _).mono ?_; rintro e w' ⟨rfl, rfl⟩)
    | (go_at_call 237; refine (remainder_is _ _ _).mono ?_; rintro e w' ⟨rfl, rfl⟩)
    | (go_at_call 236; refine (quotientU_is _ _ _ (by omega) (by omega)).mono ?_; rintro e w' ⟨rfl, rfl⟩)
    | (go_at_call 238; refine (remainderU_is _ _ _ (by omega) (by omega)).mono ?_; rintro e w' ⟨rfl, rfl⟩)
    | (go_at_call 265; refine (low_is _ _).mono ?_; rintro e w' ⟨rfl, rfl⟩)
    | (go_at_call 266; refine (lowU_is _ _).mono ?_; rintro e w' ⟨rfl, rfl⟩)
    | (go_at_call 234; refine (above_is _ _ _).mono ?_; rintro e w' ⟨rfl, rfl⟩)
    | (go_at_call 233; refine (high_is _ _ _).mono ?_; rintro e w' ⟨rfl, rfl⟩)
    | go_in)
  go_ret
  refine ⟨retI ?_, rfl⟩
  show _ = Go.bits .xor .i64 a b
  rfl
theorem comp_7 (a b : Int) (w : World) (_ : -9223372036854775808 ≤ a) (_ : a < 9223372036854775808) (_ : -9223372036854775808 ≤ b) (_ : b < 9223372036854775808) :
    Calls Tryz.prog 150 #[.int .i64 7, .int .i64 a, .int .i64 b] w fun e w' => e = .returned (.int .i64 (Pn.comp 7 a b)) ∧ w' = w := by
  have hq : Go.bits .and .i64 b 63 = ((b % 64).toNat : Int) := (Pn.andz_ones b 6 63 rfl (by decide)).trans (by have : (2:Int) ^ 6 = 64 := (by decide); rw [this]; omega)
  have hk : (b % 64).toNat ≤ 63 := by omega
  generalize hkk : (b % 64).toNat = k at *
  have HK := (show Hid _ from hkk)
  clear hkk
  go_enter Tryz.func150, Tryz.ntmps150
  go_wp2_with (first
    | (go_at_call 200; refine (truth_is _ _).mono ?_; rintro e w' ⟨rfl, rfl⟩)
    | (go_at_call 235; refine (quotient_is _ _ _).mono ?_; rintro e w' ⟨rfl, rfl⟩)
    | (go_at_call 237; refine (remainder_is _ _ _).mono ?_; rintro e w' ⟨rfl, rfl⟩)
    | (go_at_call 236; refine (quotientU_is _ _ _ (by omega) (by omega)).mono ?_; rintro e w' ⟨rfl, rfl⟩)
    | (go_at_call 238; refine (remainderU_is _ _ _ (by omega) (by omega)).mono ?_; rintro e w' ⟨rfl, rfl⟩)
    | (go_at_call 265; refine (low_is _ _).mono ?_; rintro e w' ⟨rfl, rfl⟩)
    | (go_at_call 266; refine (lowU_is _ _).mono ?_; rintro e w' ⟨rfl, rfl⟩)
    | (go_at_call 234; refine (above_is _ _ _).mono ?_; rintro e w' ⟨rfl, rfl⟩)
    | (go_at_call 233; refine (high_is _ _ _).mono ?_; rintro e w' ⟨rfl, rfl⟩)
    | go_in)
  go_ret
  refine ⟨retI ?_, rfl⟩
  show _ = IntKind.i64.wrap (a % 18446744073709551616 / 2 ^ (b % 64).toNat)
  rw [HK.out]
  simp only [wrap64_eq, Pn.wu64]
theorem comp_8 (a b : Int) (w : World) (_ : -9223372036854775808 ≤ a) (_ : a < 9223372036854775808) (_ : -9223372036854775808 ≤ b) (_ : b < 9223372036854775808) :
    Calls Tryz.prog 150 #[.int .i64 8, .int .i64 a, .int .i64 b] w fun e w' => e = .returned (.int .i64 (Pn.comp 8 a b)) ∧ w' = w := by
  have hq : Go.bits .and .i64 b 63 = ((b % 64).toNat : Int) := (Pn.andz_ones b 6 63 rfl (by decide)).trans (by have : (2:Int) ^ 6 = 64 := (by decide); rw [this]; omega)
  have hk : (b % 64).toNat ≤ 63 := by omega
  generalize hkk : (b % 64).toNat = k at *
  have HK := (show Hid _ from hkk)
  clear hkk
  go_enter Tryz.func150, Tryz.ntmps150
  go_wp2_with (first
    | (go_at_call 200; refine (truth_is _ _).mono ?_; rintro e w' ⟨rfl, rfl⟩)
    | (go_at_call 235; refine (quotient_is _ _ _).mono ?_; rintro e w' ⟨rfl, rfl⟩)
    | (go_at_call 237; refine (remainder_is _ _ _).mono ?_; rintro e w' ⟨rfl, rfl⟩)
    | (go_at_call 236; refine (quotientU_is _ _ _ (by omega) (by omega)).mono ?_; rintro e w' ⟨rfl, rfl⟩)
    | (go_at_call 238; refine (remainderU_is _ _ _ (by omega) (by omega)).mono ?_; rintro e w' ⟨rfl, rfl⟩)
    | (go_at_call 265; refine (low_is _ _).mono ?_; rintro e w' ⟨rfl, rfl⟩)
    | (go_at_call 266; refine (lowU_is _ _).mono ?_; rintro e w' ⟨rfl, rfl⟩)
    | (go_at_call 234; refine (above_is _ _ _).mono ?_; rintro e w' ⟨rfl, rfl⟩)
    | (go_at_call 233; refine (high_is _ _ _).mono ?_; rintro e w' ⟨rfl, rfl⟩)
    | go_in)
  go_ret
  refine ⟨retI ?_, rfl⟩
  show _ = a / 2 ^ (b % 64).toNat
  rw [HK.out]
theorem comp_9 (a b : Int) (w : World) (_ : -9223372036854775808 ≤ a) (_ : a < 9223372036854775808) (_ : -9223372036854775808 ≤ b) (_ : b < 9223372036854775808) :
    Calls Tryz.prog 150 #[.int .i64 9, .int .i64 a, .int .i64 b] w fun e w' => e = .returned (.int .i64 (Pn.comp 9 a b)) ∧ w' = w := by
  go_enter Tryz.func150, Tryz.ntmps150
  go_wp2_with (first
    | (go_at_call 200; refine (truth_is _ _).mono ?_; rintro e w' ⟨rfl, rfl⟩)
    | (go_at_call 235; refine (quotient_is _ _ _).mono ?_; rintro e w' ⟨rfl, rfl⟩)
    | (go_at_call 237; refine (remainder_is _ _ _).mono ?_; rintro e w' ⟨rfl, rfl⟩)
    | (go_at_call 236; refine (quotientU_is _ _ _ (by omega) (by omega)).mono ?_; rintro e w' ⟨rfl, rfl⟩)
    | (go_at_call 238; refine (remainderU_is _ _ _ (by omega) (by omega)).mono ?_; rintro e w' ⟨rfl, rfl⟩)
    | (go_at_call 265; refine (low_is _ _).mono ?_; rintro e w' ⟨rfl, rfl⟩)
    | (go_at_call 266; refine (lowU_is _ _).mono ?_; rintro e w' ⟨rfl, rfl⟩)
    | (go_at_call 234; refine (above_is _ _ _).mono ?_; rintro e w' ⟨rfl, rfl⟩)
    | (go_at_call 233; refine (high_is _ _ _).mono ?_; rintro e w' ⟨rfl, rfl⟩)
    | go_in)
  go_ret
  refine ⟨retI ?_, rfl⟩
  show _ = Pn.orz a b
  rfl
theorem comp_10 (a b : Int) (w : World) (_ : -9223372036854775808 ≤ a) (_ : a < 9223372036854775808) (_ : -9223372036854775808 ≤ b) (_ : b < 9223372036854775808) :
    Calls Tryz.prog 150 #[.int .i64 10, .int .i64 a, .int .i64 b] w fun e w' => e = .returned (.int .i64 (Pn.comp 10 a b)) ∧ w' = w := by
  go_enter Tryz.func150, Tryz.ntmps150
  go_wp2_with (first
    | (go_at_call 200; refine (truth_is _ _).mono ?_; rintro e w' ⟨rfl, rfl⟩)
    | (go_at_call 235; refine (quotient_is _ _ _).mono ?_; rintro e w' ⟨rfl, rfl⟩)
    | (go_at_call 237; refine (remainder_is _ _ _).mono ?_; rintro e w' ⟨rfl, rfl⟩)
    | (go_at_call 236; refine (quotientU_is _ _ _ (by omega) (by omega)).mono ?_; rintro e w' ⟨rfl, rfl⟩)
    | (go_at_call 238; refine (remainderU_is _ _ _ (by omega) (by omega)).mono ?_; rintro e w' ⟨rfl, rfl⟩)
    | (go_at_call 265; refine (low_is _ _).mono ?_; rintro e w' ⟨rfl, rfl⟩)
    | (go_at_call 266; refine (lowU_is _ _).mono ?_; rintro e w' ⟨rfl, rfl⟩)
    | (go_at_call 234; refine (above_is _ _ _).mono ?_; rintro e w' ⟨rfl, rfl⟩)
    | (go_at_call 233; refine (high_is _ _ _).mono ?_; rintro e w' ⟨rfl, rfl⟩)
    | go_in)
  go_ret
  refine ⟨retI ?_, rfl⟩
  show _ = Pn.andz a b
  rfl
theorem comp_11 (a b : Int) (w : World) (_ : -9223372036854775808 ≤ a) (_ : a < 9223372036854775808) (_ : -9223372036854775808 ≤ b) (_ : b < 9223372036854775808) :
    Calls Tryz.prog 150 #[.int .i64 11, .int .i64 a, .int .i64 b] w fun e w' => e = .returned (.int .i64 (Pn.comp 11 a b)) ∧ w' = w := by
  go_enter Tryz.func150, Tryz.ntmps150
  go_wp2_with (first
    | (go_at_call 200; refine (truth_is _ _).mono ?_; rintro e w' ⟨rfl, rfl⟩)
    | (go_at_call 235; refine (quotient_is _ _ _).mono ?_; rintro e w' ⟨rfl, rfl⟩)
    | (go_at_call 237; refine (remainder_is _ _ _).mono ?_; rintro e w' ⟨rfl, rfl⟩)
    | (go_at_call 236; refine (quotientU_is _ _ _ (by omega) (by omega)).mono ?_; rintro e w' ⟨rfl, rfl⟩)
    | (go_at_call 238; refine (remainderU_is _ _ _ (by omega) (by omega)).mono ?_; rintro e w' ⟨rfl, rfl⟩)
    | (go_at_call 265; refine (low_is _ _).mono ?_; rintro e w' ⟨rfl, rfl⟩)
    | (go_at_call 266; refine (lowU_is _ _).mono ?_; rintro e w' ⟨rfl, rfl⟩)
    | (go_at_call 234; refine (above_is _ _ _).mono ?_; rintro e w' ⟨rfl, rfl⟩)
    | (go_at_call 233; refine (high_is _ _ _).mono ?_; rintro e w' ⟨rfl, rfl⟩)
    | go_in)
  go_ret
  refine ⟨retI ?_, rfl⟩
  show _ = IntKind.i64.wrap (a * b)
  exact wrap64_eq _
theorem comp_12 (a b : Int) (w : World) (_ : -9223372036854775808 ≤ a) (_ : a < 9223372036854775808) (_ : -9223372036854775808 ≤ b) (_ : b < 9223372036854775808) :
    Calls Tryz.prog 150 #[.int .i64 12, .int .i64 a, .int .i64 b] w fun e w' => e = .returned (.int .i64 (Pn.comp 12 a b)) ∧ w' = w := by
  go_enter Tryz.func150, Tryz.ntmps150
  go_wp2_with (first
    | (go_at_call 200; refine (truth_is _ _).mono ?_; rintro e w' ⟨rfl, rfl⟩)
    | (go_at_call 235; refine (quotient_is _ _ _).mono ?_; rintro e w' ⟨rfl, rfl⟩)
    | (go_at_call 237; refine (remainder_is _ _ _).mono ?_; rintro e w' ⟨rfl, rfl⟩)
    | (go_at_call 236; refine (quotientU_is _ _ _ (by omega) (by omega)).mono ?_; rintro e w' ⟨rfl, rfl⟩)
    | (go_at_call 238; refine (remainderU_is _ _ _ (by omega) (by omega)).mono ?_; rintro e w' ⟨rfl, rfl⟩)
    | (go_at_call 265; refine (low_is _ _).mono ?_; rintro e w' ⟨rfl, rfl⟩)
    | (go_at_call 266; refine (lowU_is _ _).mono ?_; rintro e w' ⟨rfl, rfl⟩)
    | (go_at_call 234; refine (above_is _ _ _).mono ?_; rintro e w' ⟨rfl, rfl⟩)
    | (go_at_call 233; refine (high_is _ _ _).mono ?_; rintro e w' ⟨rfl, rfl⟩)
    | go_in)
  go_ret
  refine ⟨retI ?_, rfl⟩
  show _ = IntKind.i64.wrap (IntKind.i64.wrap (Pn.high a b - Pn.abv a b) - Pn.abv b a)
  simp only [wrap64_eq]
theorem comp_13 (a b : Int) (w : World) (_ : -9223372036854775808 ≤ a) (_ : a < 9223372036854775808) (_ : -9223372036854775808 ≤ b) (_ : b < 9223372036854775808) :
    Calls Tryz.prog 150 #[.int .i64 13, .int .i64 a, .int .i64 b] w fun e w' => e = .returned (.int .i64 (Pn.comp 13 a b)) ∧ w' = w := by
  go_enter Tryz.func150, Tryz.ntmps150
  go_wp2_with (first
    | (go_at_call 200; refine (truth_is _ _).mono ?_; rintro e w' ⟨rfl, rfl⟩)
    | (go_at_call 235; refine (quotient_is _ _ _).mono ?_; rintro e w' ⟨rfl, rfl⟩)
    | (go_at_call 237; refine (remainder_is _ _ _).mono ?_; rintro e w' ⟨rfl, rfl⟩)
    | (go_at_call 236; refine (quotientU_is _ _ _ (by omega) (by omega)).mono ?_; rintro e w' ⟨rfl, rfl⟩)
    | (go_at_call 238; refine (remainderU_is _ _ _ (by omega) (by omega)).mono ?_; rintro e w' ⟨rfl, rfl⟩)
    | (go_at_call 265; refine (low_is _ _).mono ?_; rintro e w' ⟨rfl, rfl⟩)
    | (go_at_call 266; refine (lowU_is _ _).mono ?_; rintro e w' ⟨rfl, rfl⟩)
    | (go_at_call 234; refine (above_is _ _ _).mono ?_; rintro e w' ⟨rfl, rfl⟩)
    | (go_at_call 233; refine (high_is _ _ _).mono ?_; rintro e w' ⟨rfl, rfl⟩)
    | go_in)
  go_ret
  refine ⟨retI ?_, rfl⟩
  show _ = IntKind.i64.wrap (Pn.high a b - Pn.abv a b)
  exact wrap64_eq _
theorem comp_14 (a b : Int) (w : World) (_ : -9223372036854775808 ≤ a) (_ : a < 9223372036854775808) (_ : -9223372036854775808 ≤ b) (_ : b < 9223372036854775808) :
    Calls Tryz.prog 150 #[.int .i64 14, .int .i64 a, .int .i64 b] w fun e w' => e = .returned (.int .i64 (Pn.comp 14 a b)) ∧ w' = w := by
  go_enter Tryz.func150, Tryz.ntmps150
  go_wp2_with (first
    | (go_at_call 200; refine (truth_is _ _).mono ?_; rintro e w' ⟨rfl, rfl⟩)
    | (go_at_call 235; refine (quotient_is _ _ _).mono ?_; rintro e w' ⟨rfl, rfl⟩)
    | (go_at_call 237; refine (remainder_is _ _ _).mono ?_; rintro e w' ⟨rfl, rfl⟩)
    | (go_at_call 236; refine (quotientU_is _ _ _ (by omega) (by omega)).mono ?_; rintro e w' ⟨rfl, rfl⟩)
    | (go_at_call 238; refine (remainderU_is _ _ _ (by omega) (by omega)).mono ?_; rintro e w' ⟨rfl, rfl⟩)
    | (go_at_call 265; refine (low_is _ _).mono ?_; rintro e w' ⟨rfl, rfl⟩)
    | (go_at_call 266; refine (lowU_is _ _).mono ?_; rintro e w' ⟨rfl, rfl⟩)
    | (go_at_call 234; refine (above_is _ _ _).mono ?_; rintro e w' ⟨rfl, rfl⟩)
    | (go_at_call 233; refine (high_is _ _ _).mono ?_; rintro e w' ⟨rfl, rfl⟩)
    | go_in)
  go_ret
  refine ⟨retI ?_, rfl⟩
  show _ = Pn.high a b
  rfl
theorem comp_15 (a b : Int) (w : World) (_ : -9223372036854775808 ≤ a) (_ : a < 9223372036854775808) (_ : -9223372036854775808 ≤ b) (_ : b < 9223372036854775808) :
    Calls Tryz.prog 150 #[.int .i64 15, .int .i64 a, .int .i64 b] w fun e w' => e = .returned (.int .i64 (Pn.comp 15 a b)) ∧ w' = w := by
  go_enter Tryz.func150, Tryz.ntmps150
  go_wp2_with (first
    | (go_at_call 200; refine (truth_is _ _).mono ?_; rintro e w' ⟨rfl, rfl⟩)
    | (go_at_call 235; refine (quotient_is _ _ _).mono ?_; rintro e w' ⟨rfl, rfl⟩)
    | (go_at_call 237; refine (remainder_is _ _ _).mono ?_; rintro e w' ⟨rfl, rfl⟩)
    | (go_at_call 236; refine (quotientU_is _ _ _ (by omega) (by omega)).mono ?_; rintro e w' ⟨rfl, rfl⟩)
    | (go_at_call 238; refine (remainderU_is _ _ _ (by omega) (by omega)).mono ?_; rintro e w' ⟨rfl, rfl⟩)
    | (go_at_call 265; refine (low_is _ _).mono ?_; rintro e w' ⟨rfl, rfl⟩)
    | (go_at_call 266; refine (lowU_is _ _).mono ?_; rintro e w' ⟨rfl, rfl⟩)
    | (go_at_call 234; refine (above_is _ _ _).mono ?_; rintro e w' ⟨rfl, rfl⟩)
    | (go_at_call 233; refine (high_is _ _ _).mono ?_; rintro e w' ⟨rfl, rfl⟩)
    | go_in)
  go_ret
  refine ⟨retI ?_, rfl⟩
  show _ = Pn.quo a b
  rfl
theorem comp_16 (a b : Int) (w : World) (_ : -9223372036854775808 ≤ a) (_ : a < 9223372036854775808) (_ : -9223372036854775808 ≤ b) (_ : b < 9223372036854775808) :
    Calls Tryz.prog 150 #[.int .i64 16, .int .i64 a, .int .i64 b] w fun e w' => e = .returned (.int .i64 (Pn.comp 16 a b)) ∧ w' = w := by
  go_enter Tryz.func150, Tryz.ntmps150
  go_wp2_with (first
    | (go_at_call 200; refine (truth_is _ _).mono ?_; rintro e w' ⟨rfl, rfl⟩)
    | (go_at_call 235; refine (quotient_is _ _ _).mono ?_; rintro e w' ⟨rfl, rfl⟩)
    | (go_at_call 237; refine (remainder_is _ _ _).mono ?_; rintro e w' ⟨rfl, rfl⟩)
    | (go_at_call 236; refine (quotientU_is _ _ _ (by omega) (by omega)).mono ?_; rintro e w' ⟨rfl, rfl⟩)
    | (go_at_call 238; refine (remainderU_is _ _ _ (by omega) (by omega)).mono ?_; rintro e w' ⟨rfl, rfl⟩)
    | (go_at_call 265; refine (low_is _ _).mono ?_; rintro e w' ⟨rfl, rfl⟩)
    | (go_at_call 266; refine (lowU_is _ _).mono ?_; rintro e w' ⟨rfl, rfl⟩)
    | (go_at_call 234; refine (above_is _ _ _).mono ?_; rintro e w' ⟨rfl, rfl⟩)
    | (go_at_call 233; refine (high_is _ _ _).mono ?_; rintro e w' ⟨rfl, rfl⟩)
    | go_in)
  go_ret
  refine ⟨retI ?_, rfl⟩
  show _ = Pn.quoU a b
  rfl
theorem comp_17 (a b : Int) (w : World) (_ : -9223372036854775808 ≤ a) (_ : a < 9223372036854775808) (_ : -9223372036854775808 ≤ b) (_ : b < 9223372036854775808) :
    Calls Tryz.prog 150 #[.int .i64 17, .int .i64 a, .int .i64 b] w fun e w' => e = .returned (.int .i64 (Pn.comp 17 a b)) ∧ w' = w := by
  go_enter Tryz.func150, Tryz.ntmps150
  go_wp2_with (first
    | (go_at_call 200; refine (truth_is _ _).mono ?_; rintro e w' ⟨rfl, rfl⟩)
    | (go_at_call 235; refine (quotient_is _ _ _).mono ?_; rintro e w' ⟨rfl, rfl⟩)
    | (go_at_call 237; refine (remainder_is _ _ _).mono ?_; rintro e w' ⟨rfl, rfl⟩)
    | (go_at_call 236; refine (quotientU_is _ _ _ (by omega) (by omega)).mono ?_; rintro e w' ⟨rfl, rfl⟩)
    | (go_at_call 238; refine (remainderU_is _ _ _ (by omega) (by omega)).mono ?_; rintro e w' ⟨rfl, rfl⟩)
    | (go_at_call 265; refine (low_is _ _).mono ?_; rintro e w' ⟨rfl, rfl⟩)
    | (go_at_call 266; refine (lowU_is _ _).mono ?_; rintro e w' ⟨rfl, rfl⟩)
    | (go_at_call 234; refine (above_is _ _ _).mono ?_; rintro e w' ⟨rfl, rfl⟩)
    | (go_at_call 233; refine (high_is _ _ _).mono ?_; rintro e w' ⟨rfl, rfl⟩)
    | go_in)
  go_ret
  refine ⟨retI ?_, rfl⟩
  show _ = Pn.rem' a b
  rfl
theorem comp_18 (a b : Int) (w : World) (_ : -9223372036854775808 ≤ a) (_ : a < 9223372036854775808) (_ : -9223372036854775808 ≤ b) (_ : b < 9223372036854775808) :
    Calls Tryz.prog 150 #[.int .i64 18, .int .i64 a, .int .i64 b] w fun e w' => e = .returned (.int .i64 (Pn.comp 18 a b)) ∧ w' = w := by
  go_enter Tryz.func150, Tryz.ntmps150
  go_wp2_with (first
    | (go_at_call 200; refine (truth_is _ _).mono ?_; rintro e w' ⟨rfl, rfl⟩)
    | (go_at_call 235; refine (quotient_is _ _ _).mono ?_; rintro e w' ⟨rfl, rfl⟩)
    | (go_at_call 237; refine (remainder_is _ _ _).mono ?_; rintro e w' ⟨rfl, rfl⟩)
    | (go_at_call 236; refine (quotientU_is _ _ _ (by omega) (by omega)).mono ?_; rintro e w' ⟨rfl, rfl⟩)
    | (go_at_call 238; refine (remainderU_is _ _ _ (by omega) (by omega)).mono ?_; rintro e w' ⟨rfl, rfl⟩)
    | (go_at_call 265; refine (low_is _ _).mono ?_; rintro e w' ⟨rfl, rfl⟩)
    | (go_at_call 266; refine (lowU_is _ _).mono ?_; rintro e w' ⟨rfl, rfl⟩)
    | (go_at_call 234; refine (above_is _ _ _).mono ?_; rintro e w' ⟨rfl, rfl⟩)
    | (go_at_call 233; refine (high_is _ _ _).mono ?_; rintro e w' ⟨rfl, rfl⟩)
    | go_in)
  go_ret
  refine ⟨retI ?_, rfl⟩
  show _ = Pn.remU a b
  rfl
theorem comp_19 (a b : Int) (w : World) (_ : -9223372036854775808 ≤ a) (_ : a < 9223372036854775808) (_ : -9223372036854775808 ≤ b) (_ : b < 9223372036854775808) :
    Calls Tryz.prog 150 #[.int .i64 19, .int .i64 a, .int .i64 b] w fun e w' => e = .returned (.int .i64 (Pn.comp 19 a b)) ∧ w' = w := by
  go_enter Tryz.func150, Tryz.ntmps150
  go_wp2_with (first
    | (go_at_call 200; refine (truth_is _ _).mono ?_; rintro e w' ⟨rfl, rfl⟩)
    | (go_at_call 235; refine (quotient_is _ _ _).mono ?_; rintro e w' ⟨rfl, rfl⟩)
    | (go_at_call 237; refine (remainder_is _ _ _).mono ?_; rintro e w' ⟨rfl, rfl⟩)
    | (go_at_call 236; refine (quotientU_is _ _ _ (by omega) (by omega)).mono ?_; rintro e w' ⟨rfl, rfl⟩)
    | (go_at_call 238; refine (remainderU_is _ _ _ (by omega) (by omega)).mono ?_; rintro e w' ⟨rfl, rfl⟩)
    | (go_at_call 265; refine (low_is _ _).mono ?_; rintro e w' ⟨rfl, rfl⟩)
    | (go_at_call 266; refine (lowU_is _ _).mono ?_; rintro e w' ⟨rfl, rfl⟩)
    | (go_at_call 234; refine (above_is _ _ _).mono ?_; rintro e w' ⟨rfl, rfl⟩)
    | (go_at_call 233; refine (high_is _ _ _).mono ?_; rintro e w' ⟨rfl, rfl⟩)
    | go_in)
  go_ret
  refine ⟨retI ?_, rfl⟩
  show _ = Pn.low (a + b)
  simp only [wrap64_eq, Pn.low_wrap]
theorem comp_20 (a b : Int) (w : World) (_ : -9223372036854775808 ≤ a) (_ : a < 9223372036854775808) (_ : -9223372036854775808 ≤ b) (_ : b < 9223372036854775808) :
    Calls Tryz.prog 150 #[.int .i64 20, .int .i64 a, .int .i64 b] w fun e w' => e = .returned (.int .i64 (Pn.comp 20 a b)) ∧ w' = w := by
  go_enter Tryz.func150, Tryz.ntmps150
  go_wp2_with (first
    | (go_at_call 200; refine (truth_is _ _).mono ?_; rintro e w' ⟨rfl, rfl⟩)
    | (go_at_call 235; refine (quotient_is _ _ _).mono ?_; rintro e w' ⟨rfl, rfl⟩)
    | (go_at_call 237; refine (remainder_is _ _ _).mono ?_; rintro e w' ⟨rfl, rfl⟩)
    | (go_at_call 236; refine (quotientU_is _ _ _ (by omega) (by omega)).mono ?_; rintro e w' ⟨rfl, rfl⟩)
    | (go_at_call 238; refine (remainderU_is _ _ _ (by omega) (by omega)).mono ?_; rintro e w' ⟨rfl, rfl⟩)
    | (go_at_call 265; refine (low_is _ _).mono ?_; rintro e w' ⟨rfl, rfl⟩)
    | (go_at_call 266; refine (lowU_is _ _).mono ?_; rintro e w' ⟨rfl, rfl⟩)
    | (go_at_call 234; refine (above_is _ _ _).mono ?_; rintro e w' ⟨rfl, rfl⟩)
    | (go_at_call 233; refine (high_is _ _ _).mono ?_; rintro e w' ⟨rfl, rfl⟩)
    | go_in)
  go_ret
  refine ⟨retI ?_, rfl⟩
  show _ = Pn.low (a - b)
  simp only [wrap64_eq, Pn.low_wrap]
theorem comp_21 (a b : Int) (w : World) (_ : -9223372036854775808 ≤ a) (_ : a < 9223372036854775808) (_ : -9223372036854775808 ≤ b) (_ : b < 9223372036854775808) :
    Calls Tryz.prog 150 #[.int .i64 21, .int .i64 a, .int .i64 b] w fun e w' => e = .returned (.int .i64 (Pn.comp 21 a b)) ∧ w' = w := by
  have hq : Go.bits .and .i64 b 31 = ((b % 32).toNat : Int) := (Pn.andz_ones b 5 31 rfl (by decide)).trans (by have : (2:Int) ^ 5 = 32 := (by decide); rw [this]; omega)
  have hk : (b % 32).toNat ≤ 31 := by omega
  generalize hkk : (b % 32).toNat = k at *
  have HK := (show Hid _ from hkk)
  clear hkk
  go_enter Tryz.func150, Tryz.ntmps150
  go_wp2_with (first
    | (go_at_call 200; refine (truth_is _ _).mono ?_; rintro e w' ⟨rfl, rfl⟩)
    | (go_at_call 235; refine (quotient_is _ _ _).mono ?_; rintro e w' ⟨rfl, rfl⟩)
    | (go_at_call 237; refine (remainder_is _ _ _).mono ?_; rintro e w' ⟨rfl, rfl⟩)
    | (go_at_call 236; refine (quotientU_is _ _ _ (by omega) (by omega)).mono ?_; rintro e w' ⟨rfl, rfl⟩)
    | (go_at_call 238; refine (remainderU_is _ _ _ (by omega) (by omega)).mono ?_; rintro e w' ⟨rfl, rfl⟩)
    | (go_at_call 265; refine (low_is _ _).mono ?_; rintro e w' ⟨rfl, rfl⟩)
    | (go_at_call 266; refine (lowU_is _ _).mono ?_; rintro e w' ⟨rfl, rfl⟩)
    | (go_at_call 234; refine (above_is _ _ _).mono ?_; rintro e w' ⟨rfl, rfl⟩)
    | (go_at_call 233; refine (high_is _ _ _).mono ?_; rintro e w' ⟨rfl, rfl⟩)
    | go_in)
  go_ret
  refine ⟨retI ?_, rfl⟩
  show _ = Pn.low (a * 2 ^ (b % 32).toNat)
  rw [HK.out]
  simp only [wrap64_eq, Pn.low_wrap]
theorem comp_22 (a b : Int) (w : World) (_ : -9223372036854775808 ≤ a) (_ : a < 9223372036854775808) (_ : -9223372036854775808 ≤ b) (_ : b < 9223372036854775808) :
    Calls Tryz.prog 150 #[.int .i64 22, .int .i64 a, .int .i64 b] w fun e w' => e = .returned (.int .i64 (Pn.comp 22 a b)) ∧ w' = w := by
  have hq : Go.bits .and .i64 b 31 = ((b % 32).toNat : Int) := (Pn.andz_ones b 5 31 rfl (by decide)).trans (by have : (2:Int) ^ 5 = 32 := (by decide); rw [this]; omega)
  have hk : (b % 32).toNat ≤ 31 := by omega
  generalize hkk : (b % 32).toNat = k at *
  have HK := (show Hid _ from hkk)
  clear hkk
  go_enter Tryz.func150, Tryz.ntmps150
  go_wp2_with (first
    | (go_at_call 200; refine (truth_is _ _).mono ?_; rintro e w' ⟨rfl, rfl⟩)
    | (go_at_call 235; refine (quotient_is _ _ _).mono ?_; rintro e w' ⟨rfl, rfl⟩)
    | (go_at_call 237; refine (remainder_is _ _ _).mono ?_; rintro e w' ⟨rfl, rfl⟩)
    | (go_at_call 236; refine (quotientU_is _ _ _ (by omega) (by omega)).mono ?_; rintro e w' ⟨rfl, rfl⟩)
    | (go_at_call 238; refine (remainderU_is _ _ _ (by omega) (by omega)).mono ?_; rintro e w' ⟨rfl, rfl⟩)
    | (go_at_call 265; refine (low_is _ _).mono ?_; rintro e w' ⟨rfl, rfl⟩)
    | (go_at_call 266; refine (lowU_is _ _).mono ?_; rintro e w' ⟨rfl, rfl⟩)
    | (go_at_call 234; refine (above_is _ _ _).mono ?_; rintro e w' ⟨rfl, rfl⟩)
    | (go_at_call 233; refine (high_is _ _ _).mono ?_; rintro e w' ⟨rfl, rfl⟩)
    | go_in)
  go_ret
  refine ⟨retI ?_, rfl⟩
  show _ = Pn.low (a % 4294967296 / 2 ^ (b % 32).toNat)
  rw [HK.out]
theorem comp_23 (a b : Int) (w : World) (_ : -9223372036854775808 ≤ a) (_ : a < 9223372036854775808) (_ : -9223372036854775808 ≤ b) (_ : b < 9223372036854775808) :
    Calls Tryz.prog 150 #[.int .i64 23, .int .i64 a, .int .i64 b] w fun e w' => e = .returned (.int .i64 (Pn.comp 23 a b)) ∧ w' = w := by
  have hq : Go.bits .and .i64 b 31 = ((b % 32).toNat : Int) := (Pn.andz_ones b 5 31 rfl (by decide)).trans (by have : (2:Int) ^ 5 = 32 := (by decide); rw [this]; omega)
  have hk : (b % 32).toNat ≤ 31 := by omega
  generalize hkk : (b % 32).toNat = k at *
  have HK := (show Hid _ from hkk)
  clear hkk
  go_enter Tryz.func150, Tryz.ntmps150
  go_wp2_with (first
    | (go_at_call 200; refine (truth_is _ _).mono ?_; rintro e w' ⟨rfl, rfl⟩)
    | (go_at_call 235; refine (quotient_is _ _ _).mono ?_; rintro e w' ⟨rfl, rfl⟩)
    | (go_at_call 237; refine (remainder_is _ _ _).mono ?_; rintro e w' ⟨rfl, rfl⟩)
    | (go_at_call 236; refine (quotientU_is _ _ _ (by omega) (by omega)).mono ?_; rintro e w' ⟨rfl, rfl⟩)
    | (go_at_call 238; refine (remainderU_is _ _ _ (by omega) (by omega)).mono ?_; rintro e w' ⟨rfl, rfl⟩)
    | (go_at_call 265; refine (low_is _ _).mono ?_; rintro e w' ⟨rfl, rfl⟩)
    | (go_at_call 266; refine (lowU_is _ _).mono ?_; rintro e w' ⟨rfl, rfl⟩)
    | (go_at_call 234; refine (above_is _ _ _).mono ?_; rintro e w' ⟨rfl, rfl⟩)
    | (go_at_call 233; refine (high_is _ _ _).mono ?_; rintro e w' ⟨rfl, rfl⟩)
    | go_in)
  go_ret
  refine ⟨retI ?_, rfl⟩
  show _ = Pn.low a / 2 ^ (b % 32).toNat
  rw [HK.out]
theorem comp_24 (a b : Int) (w : World) (_ : -9223372036854775808 ≤ a) (_ : a < 9223372036854775808) (_ : -9223372036854775808 ≤ b) (_ : b < 9223372036854775808) :
    Calls Tryz.prog 150 #[.int .i64 24, .int .i64 a, .int .i64 b] w fun e w' => e = .returned (.int .i64 (Pn.comp 24 a b)) ∧ w' = w := by
  go_enter Tryz.func150, Tryz.ntmps150
  go_wp2_with (first
    | (go_at_call 200; refine (truth_is _ _).mono ?_; rintro e w' ⟨rfl, rfl⟩)
    | (go_at_call 235; refine (quotient_is _ _ _).mono ?_; rintro e w' ⟨rfl, rfl⟩)
    | (go_at_call 237; refine (remainder_is _ _ _).mono ?_; rintro e w' ⟨rfl, rfl⟩)
    | (go_at_call 236; refine (quotientU_is _ _ _ (by omega) (by omega)).mono ?_; rintro e w' ⟨rfl, rfl⟩)
    | (go_at_call 238; refine (remainderU_is _ _ _ (by omega) (by omega)).mono ?_; rintro e w' ⟨rfl, rfl⟩)
    | (go_at_call 265; refine (low_is _ _).mono ?_; rintro e w' ⟨rfl, rfl⟩)
    | (go_at_call 266; refine (lowU_is _ _).mono ?_; rintro e w' ⟨rfl, rfl⟩)
    | (go_at_call 234; refine (above_is _ _ _).mono ?_; rintro e w' ⟨rfl, rfl⟩)
    | (go_at_call 233; refine (high_is _ _ _).mono ?_; rintro e w' ⟨rfl, rfl⟩)
    | go_in)
  go_ret
  refine ⟨retI ?_, rfl⟩
  show _ = Pn.low (a * b)
  simp only [wrap64_eq, Pn.low_wrap]
theorem comp_25 (a b : Int) (w : World) (_ : -9223372036854775808 ≤ a) (_ : a < 9223372036854775808) (_ : -9223372036854775808 ≤ b) (_ : b < 9223372036854775808) :
    Calls Tryz.prog 150 #[.int .i64 25, .int .i64 a, .int .i64 b] w fun e w' => e = .returned (.int .i64 (Pn.comp 25 a b)) ∧ w' = w := by
  go_enter Tryz.func150, Tryz.ntmps150
  go_wp2_with (first
    | (go_at_call 200; refine (truth_is _ _).mono ?_; rintro e w' ⟨rfl, rfl⟩)
    | (go_at_call 235; refine (quotient_is _ _ _).mono ?_; rintro e w' ⟨rfl, rfl⟩)
    | (go_at_call 237; refine (remainder_is _ _ _).mono ?_; rintro e w' ⟨rfl, rfl⟩)
    | (go_at_call 236; refine (quotientU_is _ _ _ (by omega) (by omega)).mono ?_; rintro e w' ⟨rfl, rfl⟩)
    | (go_at_call 238; refine (remainderU_is _ _ _ (by omega) (by omega)).mono ?_; rintro e w' ⟨rfl, rfl⟩)
    | (go_at_call 265; refine (low_is _ _).mono ?_; rintro e w' ⟨rfl, rfl⟩)
    | (go_at_call 266; refine (lowU_is _ _).mono ?_; rintro e w' ⟨rfl, rfl⟩)
    | (go_at_call 234; refine (above_is _ _ _).mono ?_; rintro e w' ⟨rfl, rfl⟩)
    | (go_at_call 233; refine (high_is _ _ _).mono ?_; rintro e w' ⟨rfl, rfl⟩)
    | go_in)
  go_ret
  refine ⟨retI ?_, rfl⟩
  show _ = Pn.low (Pn.quo (Pn.low a) (Pn.low b))
  rfl
theorem comp_26 (a b : Int) (w : World) (_ : -9223372036854775808 ≤ a) (_ : a < 9223372036854775808) (_ : -9223372036854775808 ≤ b) (_ : b < 9223372036854775808) :
    Calls Tryz.prog 150 #[.int .i64 26, .int .i64 a, .int .i64 b] w fun e w' => e = .returned (.int .i64 (Pn.comp 26 a b)) ∧ w' = w := by
  go_enter Tryz.func150, Tryz.ntmps150
  go_wp2_with (first
    | (go_at_call 200; refine (truth_is _ _).mono ?_; rintro e w' ⟨rfl, rfl⟩)
    | (go_at_call 235; refine (quotient_is _ _ _).mono ?_; rintro e w' ⟨rfl, rfl⟩)
    | (go_at_call 237; refine (remainder_is _ _ _).mono ?_; rintro e w' ⟨rfl, rfl⟩)
    | (go_at_call 236; refine (quotientU_is _ _ _ (by omega) (by omega)).mono ?_; rintro e w' ⟨rfl, rfl⟩)
    | (go_at_call 238; refine (remainderU_is _ _ _ (by omega) (by omega)).mono ?_; rintro e w' ⟨rfl, rfl⟩)
    | (go_at_call 265; refine (low_is _ _).mono ?_; rintro e w' ⟨rfl, rfl⟩)
    | (go_at_call 266; refine (lowU_is _ _).mono ?_; rintro e w' ⟨rfl, rfl⟩)
    | (go_at_call 234; refine (above_is _ _ _).mono ?_; rintro e w' ⟨rfl, rfl⟩)
    | (go_at_call 233; refine (high_is _ _ _).mono ?_; rintro e w' ⟨rfl, rfl⟩)
    | go_in)
  go_ret
  refine ⟨retI ?_, rfl⟩
  show _ = Pn.low (Pn.quoU (a % 4294967296) (b % 4294967296))
  rfl
theorem comp_27 (a b : Int) (w : World) (_ : -9223372036854775808 ≤ a) (_ : a < 9223372036854775808) (_ : -9223372036854775808 ≤ b) (_ : b < 9223372036854775808) :
    Calls Tryz.prog 150 #[.int .i64 27, .int .i64 a, .int .i64 b] w fun e w' => e = .returned (.int .i64 (Pn.comp 27 a b)) ∧ w' = w := by
  go_enter Tryz.func150, Tryz.ntmps150
  go_wp2_with (first
    | (go_at_call 200; refine (truth_is _ _).mono ?_; rintro e w' ⟨rfl, rfl⟩)
    | (go_at_call 235; refine (quotient_is _ _ _).mono ?_; rintro e w' ⟨rfl, rfl⟩)
    | (go_at_call 237; refine (remainder_is _ _ _).mono ?_; rintro e w' ⟨rfl, rfl⟩)
    | (go_at_call 236; refine (quotientU_is _ _ _ (by omega) (by omega)).mono ?_; rintro e w' ⟨rfl, rfl⟩)
    | (go_at_call 238; refine (remainderU_is _ _ _ (by omega) (by omega)).mono ?_; rintro e w' ⟨rfl, rfl⟩)
    | (go_at_call 265; refine (low_is _ _).mono ?_; rintro e w' ⟨rfl, rfl⟩)
    | (go_at_call 266; refine (lowU_is _ _).mono ?_; rintro e w' ⟨rfl, rfl⟩)
    | (go_at_call 234; refine (above_is _ _ _).mono ?_; rintro e w' ⟨rfl, rfl⟩)
    | (go_at_call 233; refine (high_is _ _ _).mono ?_; rintro e w' ⟨rfl, rfl⟩)
    | go_in)
  go_ret
  refine ⟨retI ?_, rfl⟩
  show _ = Pn.rem' (Pn.low a) (Pn.low b)
  rfl
theorem comp_28 (a b : Int) (w : World) (_ : -9223372036854775808 ≤ a) (_ : a < 9223372036854775808) (_ : -9223372036854775808 ≤ b) (_ : b < 9223372036854775808) :
    Calls Tryz.prog 150 #[.int .i64 28, .int .i64 a, .int .i64 b] w fun e w' => e = .returned (.int .i64 (Pn.comp 28 a b)) ∧ w' = w := by
  go_enter Tryz.func150, Tryz.ntmps150
  go_wp2_with (first
    | (go_at_call 200; refine (truth_is _ _).mono ?_; rintro e w' ⟨rfl, rfl⟩)
    | (go_at_call 235; refine (quotient_is _ _ _).mono ?_; rintro e w' ⟨rfl, rfl⟩)
    | (go_at_call 237; refine (remainder_is _ _ _).mono ?_; rintro e w' ⟨rfl, rfl⟩)
    | (go_at_call 236; refine (quotientU_is _ _ _ (by omega) (by omega)).mono ?_; rintro e w' ⟨rfl, rfl⟩)
    | (go_at_call 238; refine (remainderU_is _ _ _ (by omega) (by omega)).mono ?_; rintro e w' ⟨rfl, rfl⟩)
    | (go_at_call 265; refine (low_is _ _).mono ?_; rintro e w' ⟨rfl, rfl⟩)
    | (go_at_call 266; refine (lowU_is _ _).mono ?_; rintro e w' ⟨rfl, rfl⟩)
    | (go_at_call 234; refine (above_is _ _ _).mono ?_; rintro e w' ⟨rfl, rfl⟩)
    | (go_at_call 233; refine (high_is _ _ _).mono ?_; rintro e w' ⟨rfl, rfl⟩)
    | go_in)
  go_ret
  refine ⟨retI ?_, rfl⟩
  show _ = Pn.low (Pn.remU (a % 4294967296) (b % 4294967296))
  rfl
theorem comp_29 (a b : Int) (w : World) (_ : -9223372036854775808 ≤ a) (_ : a < 9223372036854775808) (_ : -9223372036854775808 ≤ b) (_ : b < 9223372036854775808) :
    Calls Tryz.prog 150 #[.int .i64 29, .int .i64 a, .int .i64 b] w fun e w' => e = .returned (.int .i64 (Pn.comp 29 a b)) ∧ w' = w := by
  go_enter Tryz.func150, Tryz.ntmps150
  go_wp2_with (first
    | (go_at_call 200; refine (truth_is _ _).mono ?_; rintro e w' ⟨rfl, rfl⟩)
    | (go_at_call 235; refine (quotient_is _ _ _).mono ?_; rintro e w' ⟨rfl, rfl⟩)
    | (go_at_call 237; refine (remainder_is _ _ _).mono ?_; rintro e w' ⟨rfl, rfl⟩)
    | (go_at_call 236; refine (quotientU_is _ _ _ (by omega) (by omega)).mono ?_; rintro e w' ⟨rfl, rfl⟩)
    | (go_at_call 238; refine (remainderU_is _ _ _ (by omega) (by omega)).mono ?_; rintro e w' ⟨rfl, rfl⟩)
    | (go_at_call 265; refine (low_is _ _).mono ?_; rintro e w' ⟨rfl, rfl⟩)
    | (go_at_call 266; refine (lowU_is _ _).mono ?_; rintro e w' ⟨rfl, rfl⟩)
    | (go_at_call 234; refine (above_is _ _ _).mono ?_; rintro e w' ⟨rfl, rfl⟩)
    | (go_at_call 233; refine (high_is _ _ _).mono ?_; rintro e w' ⟨rfl, rfl⟩)
    | go_in)
  go_ret
  refine ⟨retI ?_, rfl⟩
  show _ = IntKind.i64.wrap (a + b)
  exact wrap64_eq _
theorem comp_30 (a b : Int) (w : World) (_ : -9223372036854775808 ≤ a) (_ : a < 9223372036854775808) (_ : -9223372036854775808 ≤ b) (_ : b < 9223372036854775808) :
    Calls Tryz.prog 150 #[.int .i64 30, .int .i64 a, .int .i64 b] w fun e w' => e = .returned (.int .i64 (Pn.comp 30 a b)) ∧ w' = w := by
  go_enter Tryz.func150, Tryz.ntmps150
  go_wp2_with (first
    | (go_at_call 200; refine (truth_is _ _).mono ?_; rintro e w' ⟨rfl, rfl⟩)
    | (go_at_call 235; refine (quotient_is _ _ _).mono ?_; rintro e w' ⟨rfl, rfl⟩)
    | (go_at_call 237; refine (remainder_is _ _ _).mono ?_; rintro e w' ⟨rfl, rfl⟩)
    | (go_at_call 236; refine (quotientU_is _ _ _ (by omega) (by omega)).mono ?_; rintro e w' ⟨rfl, rfl⟩)
    | (go_at_call 238; refine (remainderU_is _ _ _ (by omega) (by omega)).mono ?_; rintro e w' ⟨rfl, rfl⟩)
    | (go_at_call 265; refine (low_is _ _).mono ?_; rintro e w' ⟨rfl, rfl⟩)
    | (go_at_call 266; refine (lowU_is _ _).mono ?_; rintro e w' ⟨rfl, rfl⟩)
    | (go_at_call 234; refine (above_is _ _ _).mono ?_; rintro e w' ⟨rfl, rfl⟩)
    | (go_at_call 233; refine (high_is _ _ _).mono ?_; rintro e w' ⟨rfl, rfl⟩)
    | go_in)
  go_ret
  refine ⟨retI ?_, rfl⟩
  show _ = Pn.tru (decide (a < b))
  rfl
theorem comp_31 (a b : Int) (w : World) (_ : -9223372036854775808 ≤ a) (_ : a < 9223372036854775808) (_ : -9223372036854775808 ≤ b) (_ : b < 9223372036854775808) :
    Calls Tryz.prog 150 #[.int .i64 31, .int .i64 a, .int .i64 b] w fun e w' => e = .returned (.int .i64 (Pn.comp 31 a b)) ∧ w' = w := by
  go_enter Tryz.func150, Tryz.ntmps150
  go_wp2_with (first
    | (go_at_call 200; refine (truth_is _ _).mono ?_; rintro e w' ⟨rfl, rfl⟩)
    | (go_at_call 235; refine (quotient_is _ _ _).mono ?_; rintro e w' ⟨rfl, rfl⟩)
    | (go_at_call 237; refine (remainder_is _ _ _).mono ?_; rintro e w' ⟨rfl, rfl⟩)
    | (go_at_call 236; refine (quotientU_is _ _ _ (by omega) (by omega)).mono ?_; rintro e w' ⟨rfl, rfl⟩)
    | (go_at_call 238; refine (remainderU_is _ _ _ (by omega) (by omega)).mono ?_; rintro e w' ⟨rfl, rfl⟩)
    | (go_at_call 265; refine (low_is _ _).mono ?_; rintro e w' ⟨rfl, rfl⟩)
    | (go_at_call 266; refine (lowU_is _ _).mono ?_; rintro e w' ⟨rfl, rfl⟩)
    | (go_at_call 234; refine (above_is _ _ _).mono ?_; rintro e w' ⟨rfl, rfl⟩)
    | (go_at_call 233; refine (high_is _ _ _).mono ?_; rintro e w' ⟨rfl, rfl⟩)
    | go_in)
  go_ret
  refine ⟨retI ?_, rfl⟩
  show _ = Pn.tru (decide (a % 18446744073709551616 < b % 18446744073709551616))
  simp only [Pn.wu64]
theorem comp_32 (a b : Int) (w : World) (_ : -9223372036854775808 ≤ a) (_ : a < 9223372036854775808) (_ : -9223372036854775808 ≤ b) (_ : b < 9223372036854775808) :
    Calls Tryz.prog 150 #[.int .i64 32, .int .i64 a, .int .i64 b] w fun e w' => e = .returned (.int .i64 (Pn.comp 32 a b)) ∧ w' = w := by
  go_enter Tryz.func150, Tryz.ntmps150
  go_wp2_with (first
    | (go_at_call 200; refine (truth_is _ _).mono ?_; rintro e w' ⟨rfl, rfl⟩)
    | (go_at_call 235; refine (quotient_is _ _ _).mono ?_; rintro e w' ⟨rfl, rfl⟩)
    | (go_at_call 237; refine (remainder_is _ _ _).mono ?_; rintro e w' ⟨rfl, rfl⟩)
    | (go_at_call 236; refine (quotientU_is _ _ _ (by omega) (by omega)).mono ?_; rintro e w' ⟨rfl, rfl⟩)
    | (go_at_call 238; refine (remainderU_is _ _ _ (by omega) (by omega)).mono ?_; rintro e w' ⟨rfl, rfl⟩)
    | (go_at_call 265; refine (low_is _ _).mono ?_; rintro e w' ⟨rfl, rfl⟩)
    | (go_at_call 266; refine (lowU_is _ _).mono ?_; rintro e w' ⟨rfl, rfl⟩)
    | (go_at_call 234; refine (above_is _ _ _).mono ?_; rintro e w' ⟨rfl, rfl⟩)
    | (go_at_call 233; refine (high_is _ _ _).mono ?_; rintro e w' ⟨rfl, rfl⟩)
    | go_in)
  go_ret
  refine ⟨retI ?_, rfl⟩
  show _ = Go.bits .xor .i64 a b
  rfl
theorem comp_33 (a b : Int) (w : World) (_ : -9223372036854775808 ≤ a) (_ : a < 9223372036854775808) (_ : -9223372036854775808 ≤ b) (_ : b < 9223372036854775808) :
    Calls Tryz.prog 150 #[.int .i64 33, .int .i64 a, .int .i64 b] w fun e w' => e = .returned (.int .i64 (Pn.comp 33 a b)) ∧ w' = w := by
  go_enter Tryz.func150, Tryz.ntmps150
  go_wp2_with (first
    | (go_at_call 200; refine (truth_is _ _).mono ?_; rintro e w' ⟨rfl, rfl⟩)
    | (go_at_call 235; refine (quotient_is _ _ _).mono ?_; rintro e w' ⟨rfl, rfl⟩)
    | (go_at_call 237; refine (remainder_is _ _ _).mono ?_; rintro e w' ⟨rfl, rfl⟩)
    | (go_at_call 236; refine (quotientU_is _ _ _ (by omega) (by omega)).mono ?_; rintro e w' ⟨rfl, rfl⟩)
    | (go_at_call 238; refine (remainderU_is _ _ _ (by omega) (by omega)).mono ?_; rintro e w' ⟨rfl, rfl⟩)
    | (go_at_call 265; refine (low_is _ _).mono ?_; rintro e w' ⟨rfl, rfl⟩)
    | (go_at_call 266; refine (lowU_is _ _).mono ?_; rintro e w' ⟨rfl, rfl⟩)
    | (go_at_call 234; refine (above_is _ _ _).mono ?_; rintro e w' ⟨rfl, rfl⟩)
    | (go_at_call 233; refine (high_is _ _ _).mono ?_; rintro e w' ⟨rfl, rfl⟩)
    | go_in)
  go_ret
  refine ⟨retI ?_, rfl⟩
  show _ = Pn.orz a b
  rfl
theorem comp_34 (a b : Int) (w : World) (_ : -9223372036854775808 ≤ a) (_ : a < 9223372036854775808) (_ : -9223372036854775808 ≤ b) (_ : b < 9223372036854775808) :
    Calls Tryz.prog 150 #[.int .i64 34, .int .i64 a, .int .i64 b] w fun e w' => e = .returned (.int .i64 (Pn.comp 34 a b)) ∧ w' = w := by
  go_enter Tryz.func150, Tryz.ntmps150
  go_wp2_with (first
    | (go_at_call 200; refine (truth_is _ _).mono ?_; rintro e w' ⟨rfl, rfl⟩)
    | (go_at_call 235; refine (quotient_is _ _ _).mono ?_; rintro e w' ⟨rfl, rfl⟩)
    | (go_at_call 237; refine (remainder_is _ _ _).mono ?_; rintro e w' ⟨rfl, rfl⟩)
    | (go_at_call 236; refine (quotientU_is _ _ _ (by omega) (by omega)).mono ?_; rintro e w' ⟨rfl, rfl⟩)
    | (go_at_call 238; refine (remainderU_is _ _ _ (by omega) (by omega)).mono ?_; rintro e w' ⟨rfl, rfl⟩)
    | (go_at_call 265; refine (low_is _ _).mono ?_; rintro e w' ⟨rfl, rfl⟩)
    | (go_at_call 266; refine (lowU_is _ _).mono ?_; rintro e w' ⟨rfl, rfl⟩)
    | (go_at_call 234; refine (above_is _ _ _).mono ?_; rintro e w' ⟨rfl, rfl⟩)
    | (go_at_call 233; refine (high_is _ _ _).mono ?_; rintro e w' ⟨rfl, rfl⟩)
    | go_in)
  go_ret
  refine ⟨retI ?_, rfl⟩
  show _ = Pn.andz a b
  rfl
theorem comp_35 (a b : Int) (w : World) (_ : -9223372036854775808 ≤ a) (_ : a < 9223372036854775808) (_ : -9223372036854775808 ≤ b) (_ : b < 9223372036854775808) :
    Calls Tryz.prog 150 #[.int .i64 35, .int .i64 a, .int .i64 b] w fun e w' => e = .returned (.int .i64 (Pn.comp 35 a b)) ∧ w' = w := by
  have hq : Go.bits .and .i64 b 63 = ((b % 64).toNat : Int) := (Pn.andz_ones b 6 63 rfl (by decide)).trans (by have : (2:Int) ^ 6 = 64 := (by decide); rw [this]; omega)
  have hk : (b % 64).toNat ≤ 63 := by omega
  generalize hkk : (b % 64).toNat = k at *
  have HK := (show Hid _ from hkk)
  clear hkk
  go_enter Tryz.func150, Tryz.ntmps150
  go_wp2_with (first
    | (go_at_call 200; refine (truth_is _ _).mono ?_; rintro e w' ⟨rfl, rfl⟩)
    | (go_at_call 235; refine (quotient_is _ _ _).mono ?_; rintro e w' ⟨rfl, rfl⟩)
    | (go_at_call 237; refine (remainder_is _ _ _).mono ?_; rintro e w' ⟨rfl, rfl⟩)
    | (go_at_call 236; refine (quotientU_is _ _ _ (by omega) (by omega)).mono ?_; rintro e w' ⟨rfl, rfl⟩)
    | (go_at_call 238; refine (remainderU_is _ _ _ (by omega) (by omega)).mono ?_; rintro e w' ⟨rfl, rfl⟩)
    | (go_at_call 265; refine (low_is _ _).mono ?_; rintro e w' ⟨rfl, rfl⟩)
    | (go_at_call 266; refine (lowU_is _ _).mono ?_; rintro e w' ⟨rfl, rfl⟩)
    | (go_at_call 234; refine (above_is _ _ _).mono ?_; rintro e w' ⟨rfl, rfl⟩)
    | (go_at_call 233; refine (high_is _ _ _).mono ?_; rintro e w' ⟨rfl, rfl⟩)
    | go_in)
  go_ret
  refine ⟨retI ?_, rfl⟩
  show _ = IntKind.i64.wrap (a * 2 ^ (b % 64).toNat)
  rw [HK.out]
  exact wrap64_eq _
theorem comp_36 (a b : Int) (w : World) (_ : -9223372036854775808 ≤ a) (_ : a < 9223372036854775808) (_ : -9223372036854775808 ≤ b) (_ : b < 9223372036854775808) :
    Calls Tryz.prog 150 #[.int .i64 36, .int .i64 a, .int .i64 b] w fun e w' => e = .returned (.int .i64 (Pn.comp 36 a b)) ∧ w' = w := by
  have hq : Go.bits .and .i64 b 63 = ((b % 64).toNat : Int) := (Pn.andz_ones b 6 63 rfl (by decide)).trans (by have : (2:Int) ^ 6 = 64 := (by decide); rw [this]; omega)
  have hk : (b % 64).toNat ≤ 63 := by omega
  generalize hkk : (b % 64).toNat = k at *
  have HK := (show Hid _ from hkk)
  clear hkk
  go_enter Tryz.func150, Tryz.ntmps150
  go_wp2_with (first
    | (go_at_call 200; refine (truth_is _ _).mono ?_; rintro e w' ⟨rfl, rfl⟩)
    | (go_at_call 235; refine (quotient_is _ _ _).mono ?_; rintro e w' ⟨rfl, rfl⟩)
    | (go_at_call 237; refine (remainder_is _ _ _).mono ?_; rintro e w' ⟨rfl, rfl⟩)
    | (go_at_call 236; refine (quotientU_is _ _ _ (by omega) (by omega)).mono ?_; rintro e w' ⟨rfl, rfl⟩)
    | (go_at_call 238; refine (remainderU_is _ _ _ (by omega) (by omega)).mono ?_; rintro e w' ⟨rfl, rfl⟩)
    | (go_at_call 265; refine (low_is _ _).mono ?_; rintro e w' ⟨rfl, rfl⟩)
    | (go_at_call 266; refine (lowU_is _ _).mono ?_; rintro e w' ⟨rfl, rfl⟩)
    | (go_at_call 234; refine (above_is _ _ _).mono ?_; rintro e w' ⟨rfl, rfl⟩)
    | (go_at_call 233; refine (high_is _ _ _).mono ?_; rintro e w' ⟨rfl, rfl⟩)
    | go_in)
  go_ret
  refine ⟨retI ?_, rfl⟩
  show _ = IntKind.i64.wrap (a % 18446744073709551616 / 2 ^ (b % 64).toNat)
  rw [HK.out]
  simp only [wrap64_eq, Pn.wu64]
theorem comp_37 (a b : Int) (w : World) (_ : -9223372036854775808 ≤ a) (_ : a < 9223372036854775808) (_ : -9223372036854775808 ≤ b) (_ : b < 9223372036854775808) :
    Calls Tryz.prog 150 #[.int .i64 37, .int .i64 a, .int .i64 b] w fun e w' => e = .returned (.int .i64 (Pn.comp 37 a b)) ∧ w' = w := by
  have hq : Go.bits .and .i64 b 63 = ((b % 64).toNat : Int) := (Pn.andz_ones b 6 63 rfl (by decide)).trans (by have : (2:Int) ^ 6 = 64 := (by decide); rw [this]; omega)
  have hk : (b % 64).toNat ≤ 63 := by omega
  generalize hkk : (b % 64).toNat = k at *
  have HK := (show Hid _ from hkk)
  clear hkk
  go_enter Tryz.func150, Tryz.ntmps150
  go_wp2_with (first
    | (go_at_call 200; refine (truth_is _ _).mono ?_; rintro e w' ⟨rfl, rfl⟩)
    | (go_at_call 235; refine (quotient_is _ _ _).mono ?_; rintro e w' ⟨rfl, rfl⟩)
    | (go_at_call 237; refine (remainder_is _ _ _).mono ?_; rintro e w' ⟨rfl, rfl⟩)
    | (go_at_call 236; refine (quotientU_is _ _ _ (by omega) (by omega)).mono ?_; rintro e w' ⟨rfl, rfl⟩)
    | (go_at_call 238; refine (remainderU_is _ _ _ (by omega) (by omega)).mono ?_; rintro e w' ⟨rfl, rfl⟩)
    | (go_at_call 265; refine (low_is _ _).mono ?_; rintro e w' ⟨rfl, rfl⟩)
    | (go_at_call 266; refine (lowU_is _ _).mono ?_; rintro e w' ⟨rfl, rfl⟩)
    | (go_at_call 234; refine (above_is _ _ _).mono ?_; rintro e w' ⟨rfl, rfl⟩)
    | (go_at_call 233; refine (high_is _ _ _).mono ?_; rintro e w' ⟨rfl, rfl⟩)
    | go_in)
  go_ret
  refine ⟨retI ?_, rfl⟩
  show _ = a / 2 ^ (b % 64).toNat
  rw [HK.out]
theorem comp_38 (a b : Int) (w : World) (_ : -9223372036854775808 ≤ a) (_ : a < 9223372036854775808) (_ : -9223372036854775808 ≤ b) (_ : b < 9223372036854775808) :
    Calls Tryz.prog 150 #[.int .i64 38, .int .i64 a, .int .i64 b] w fun e w' => e = .returned (.int .i64 (Pn.comp 38 a b)) ∧ w' = w := by
  go_enter Tryz.func150, Tryz.ntmps150
  go_wp2_with (first
    | (go_at_call 200; refine (truth_is _ _).mono ?_; rintro e w' ⟨rfl, rfl⟩)
    | (go_at_call 235; refine (quotient_is _ _ _).mono ?_; rintro e w' ⟨rfl, rfl⟩)
    | (go_at_call 237; refine (remainder_is _ _ _).mono ?_; rintro e w' ⟨rfl, rfl⟩)
    | (go_at_call 236; refine (quotientU_is _ _ _ (by omega) (by omega)).mono ?_; rintro e w' ⟨rfl, rfl⟩)
    | (go_at_call 238; refine (remainderU_is _ _ _ (by omega) (by omega)).mono ?_; rintro e w' ⟨rfl, rfl⟩)
    | (go_at_call 265; refine (low_is _ _).mono ?_; rintro e w' ⟨rfl, rfl⟩)
    | (go_at_call 266; refine (lowU_is _ _).mono ?_; rintro e w' ⟨rfl, rfl⟩)
    | (go_at_call 234; refine (above_is _ _ _).mono ?_; rintro e w' ⟨rfl, rfl⟩)
    | (go_at_call 233; refine (high_is _ _ _).mono ?_; rintro e w' ⟨rfl, rfl⟩)
    | go_in)
  go_ret
  refine ⟨retI ?_, rfl⟩
  show _ = Pn.low (a + b)
  simp only [wrap64_eq, Pn.low_wrap]
theorem comp_39 (a b : Int) (w : World) (_ : -9223372036854775808 ≤ a) (_ : a < 9223372036854775808) (_ : -9223372036854775808 ≤ b) (_ : b < 9223372036854775808) :
    Calls Tryz.prog 150 #[.int .i64 39, .int .i64 a, .int .i64 b] w fun e w' => e = .returned (.int .i64 (Pn.comp 39 a b)) ∧ w' = w := by
  have hq : Go.bits .and .i64 b 31 = ((b % 32).toNat : Int) := (Pn.andz_ones b 5 31 rfl (by decide)).trans (by have : (2:Int) ^ 5 = 32 := (by decide); rw [this]; omega)
  have hk : (b % 32).toNat ≤ 31 := by omega
  generalize hkk : (b % 32).toNat = k at *
  have HK := (show Hid _ from hkk)
  clear hkk
  go_enter Tryz.func150, Tryz.ntmps150
  go_wp2_with (first
    | (go_at_call 200; refine (truth_is _ _).mono ?_; rintro e w' ⟨rfl, rfl⟩)
    | (go_at_call 235; refine (quotient_is _ _ _).mono ?_; rintro e w' ⟨rfl, rfl⟩)
    | (go_at_call 237; refine (remainder_is _ _ _).mono ?_; rintro e w' ⟨rfl, rfl⟩)
    | (go_at_call 236; refine (quotientU_is _ _ _ (by omega) (by omega)).mono ?_; rintro e w' ⟨rfl, rfl⟩)
    | (go_at_call 238; refine (remainderU_is _ _ _ (by omega) (by omega)).mono ?_; rintro e w' ⟨rfl, rfl⟩)
    | (go_at_call 265; refine (low_is _ _).mono ?_; rintro e w' ⟨rfl, rfl⟩)
    | (go_at_call 266; refine (lowU_is _ _).mono ?_; rintro e w' ⟨rfl, rfl⟩)
    | (go_at_call 234; refine (above_is _ _ _).mono ?_; rintro e w' ⟨rfl, rfl⟩)
    | (go_at_call 233; refine (high_is _ _ _).mono ?_; rintro e w' ⟨rfl, rfl⟩)
    | go_in)
  go_ret
  refine ⟨retI ?_, rfl⟩
  show _ = Pn.low (a * 2 ^ (b % 32).toNat)
  rw [HK.out]
  simp only [wrap64_eq, Pn.low_wrap]
theorem comp_40 (a b : Int) (w : World) (_ : -9223372036854775808 ≤ a) (_ : a < 9223372036854775808) (_ : -9223372036854775808 ≤ b) (_ : b < 9223372036854775808) :
    Calls Tryz.prog 150 #[.int .i64 40, .int .i64 a, .int .i64 b] w fun e w' => e = .returned (.int .i64 (Pn.comp 40 a b)) ∧ w' = w := by
  have hq : Go.bits .and .i64 b 31 = ((b % 32).toNat : Int) := (Pn.andz_ones b 5 31 rfl (by decide)).trans (by have : (2:Int) ^ 5 = 32 := (by decide); rw [this]; omega)
  have hk : (b % 32).toNat ≤ 31 := by omega
  generalize hkk : (b % 32).toNat = k at *
  have HK := (show Hid _ from hkk)
  clear hkk
  go_enter Tryz.func150, Tryz.ntmps150
  go_wp2_with (first
    | (go_at_call 200; refine (truth_is _ _).mono ?_; rintro e w' ⟨rfl, rfl⟩)
    | (go_at_call 235; refine (quotient_is _ _ _).mono ?_; rintro e w' ⟨rfl, rfl⟩)
    | (go_at_call 237; refine (remainder_is _ _ _).mono ?_; rintro e w' ⟨rfl, rfl⟩)
    | (go_at_call 236; refine (quotientU_is _ _ _ (by omega) (by omega)).mono ?_; rintro e w' ⟨rfl, rfl⟩)
    | (go_at_call 238; refine (remainderU_is _ _ _ (by omega) (by omega)).mono ?_; rintro e w' ⟨rfl, rfl⟩)
    | (go_at_call 265; refine (low_is _ _).mono ?_; rintro e w' ⟨rfl, rfl⟩)
    | (go_at_call 266; refine (lowU_is _ _).mono ?_; rintro e w' ⟨rfl, rfl⟩)
    | (go_at_call 234; refine (above_is _ _ _).mono ?_; rintro e w' ⟨rfl, rfl⟩)
    | (go_at_call 233; refine (high_is _ _ _).mono ?_; rintro e w' ⟨rfl, rfl⟩)
    | go_in)
  go_ret
  refine ⟨retI ?_, rfl⟩
  show _ = Pn.low (a % 4294967296 / 2 ^ (b % 32).toNat)
  rw [HK.out]
theorem comp_41 (a b : Int) (w : World) (_ : -9223372036854775808 ≤ a) (_ : a < 9223372036854775808) (_ : -9223372036854775808 ≤ b) (_ : b < 9223372036854775808) :
    Calls Tryz.prog 150 #[.int .i64 41, .int .i64 a, .int .i64 b] w fun e w' => e = .returned (.int .i64 (Pn.comp 41 a b)) ∧ w' = w := by
  have hq : Go.bits .and .i64 b 31 = ((b % 32).toNat : Int) := (Pn.andz_ones b 5 31 rfl (by decide)).trans (by have : (2:Int) ^ 5 = 32 := (by decide); rw [this]; omega)
  have hk : (b % 32).toNat ≤ 31 := by omega
  generalize hkk : (b % 32).toNat = k at *
  have HK := (show Hid _ from hkk)
  clear hkk
  go_enter Tryz.func150, Tryz.ntmps150
  go_wp2_with (first
    | (go_at_call 200; refine (truth_is _ _).mono ?_; rintro e w' ⟨rfl, rfl⟩)
    | (go_at_call 235; refine (quotient_is _ _ _).mono ?_; rintro e w' ⟨rfl, rfl⟩)
    | (go_at_call 237; refine (remainder_is _ _ _).mono ?_; rintro e w' ⟨rfl, rfl⟩)
    | (go_at_call 236; refine (quotientU_is _ _ _ (by omega) (by omega)).mono ?_; rintro e w' ⟨rfl, rfl⟩)
    | (go_at_call 238; refine (remainderU_is _ _ _ (by omega) (by omega)).mono ?_; rintro e w' ⟨rfl, rfl⟩)
    | (go_at_call 265; refine (low_is _ _).mono ?_; rintro e w' ⟨rfl, rfl⟩)
    | (go_at_call 266; refine (lowU_is _ _).mono ?_; rintro e w' ⟨rfl, rfl⟩)
    | (go_at_call 234; refine (above_is _ _ _).mono ?_; rintro e w' ⟨rfl, rfl⟩)
    | (go_at_call 233; refine (high_is _ _ _).mono ?_; rintro e w' ⟨rfl, rfl⟩)
    | go_in)
  go_ret
  refine ⟨retI ?_, rfl⟩
  show _ = Pn.low a / 2 ^ (b % 32).toNat
  rw [HK.out]
end Go.Proofs.YtbmcofdodfcnnaaGreatDoor
