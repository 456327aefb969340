namespace Pn
theorem pow_mono {a b : Nat} (h : a ≤ b) : (2:Int) ^ a ≤ 2 ^ b := by
  have := Nat.pow_le_pow_right (n := 2) (by omega) h
  exact_mod_cast this
theorem pow_pos (a : Nat) : (0:Int) < 2 ^ a := Int.pow_pos (by omega)
theorem pow_succ' (a : Nat) : (2:Int) ^ (a+1) = 2 * 2 ^ a := by rw [Int.pow_succ]; omega
theorem pow_le62 {a : Nat} (h : a ≤ 62) : (2:Int) ^ a ≤ 4611686018427387904 := pow_mono h

/-- the bits from hi down to lo -/
def bits (n : Int) (hi lo : Nat) : Int := (n / 2 ^ lo) % 2 ^ (hi - lo + 1)
def signed (n : Int) (size : Nat) : Int := if n ≥ 2 ^ (size - 1) then n - 2 ^ size else n

theorem bits_lo (n : Int) (hi lo : Nat) : 0 ≤ bits n hi lo := Int.emod_nonneg _ (by have := pow_pos (hi - lo + 1); omega)
theorem bits_hi (n : Int) (hi lo : Nat) : bits n hi lo < 2 ^ (hi - lo + 1) := Int.emod_lt_of_pos _ (pow_pos _)

/-- halving down, k times -/
theorem div_pow_succ (n : Int) (k : Nat) : n / 2 ^ (k+1) = (n / 2 ^ k) / 2 := by
  rw [Int.pow_succ, Int.ediv_ediv_of_nonneg (by have := pow_pos k; omega)]
theorem div_pow_bound (n : Int) (k : Nat) (B : Int) (h0 : -B ≤ n) (h1 : n ≤ B) (hB : 0 ≤ B) : -B ≤ n / 2 ^ k ∧ n / 2 ^ k ≤ B := by
  induction k with
  | zero => simp; omega
  | succ k ih => rw [div_pow_succ]; omega
theorem half_neg (n : Int) (h : n < 0) : (n - 1).tdiv 2 = n / 2 := by
  rw [Int.tdiv_eq_ediv]
  have : Int.sign 2 = 1 := rfl
  rw [this]
  split <;> omega
theorem half_pos (n : Int) (h : 0 ≤ n) : n.tdiv 2 = n / 2 := Int.tdiv_eq_ediv_of_nonneg h
theorem tmod_fix (n m : Int) (hm : 0 < m) : (if n.tmod m < 0 then n.tmod m + m else n.tmod m) = n % m := by
  rw [Int.tmod_eq_emod]
  have h1 := Int.emod_nonneg n (show m ≠ 0 by omega)
  have h2 := Int.emod_lt_of_pos n hm
  by_cases h : 0 ≤ n ∨ m ∣ n
  · simp [h]; omega
  · simp [h]; rw [Int.natAbs_of_nonneg (by omega)] ; split <;> omega
/-- 2 to the i, for the walk -/
def pow2 (i : Int) : Int := 2 ^ i.toNat
/-- the bits, for the walk -/
def bitz (n hi lo : Int) : Int := bits n hi.toNat lo.toNat
theorem bitz_bd (n hi lo : Int) : 0 ≤ bitz n hi lo ∧ bitz n hi lo < 2 ^ (hi.toNat - lo.toNat + 1) := ⟨bits_lo _ _ _, bits_hi _ _ _⟩
end Pn
