import Derived.Test.YtbmcofdodfcnnaaGreatDoorGFK
namespace Pn
def allFit (P : Nat → Bool) : List UInt8 → Nat → Bool
  | [], a => P a
  | c :: r, a => if c = 48 then allFit P r (2 * a) else if c = 49 then allFit P r (2 * a + 1) else allFit P r (2 * a) && allFit P r (2 * a + 1)
theorem allFit_at (P : Nat → Bool) : ∀ (l : List UInt8) (a n : Nat), allFit P l a = true → n / 2 ^ l.length = a →
    (∀ j, j < l.length → (l.getD j 0 = 48 → n / 2 ^ (l.length - 1 - j) % 2 = 0) ∧ (l.getD j 0 = 49 → n / 2 ^ (l.length - 1 - j) % 2 = 1)) → P n = true
  | [], a, n, h, hn, _ => by
    simp at hn; subst hn; exact h
  | c :: r, a, n, h, hn, hd => by
    have e : n / 2 ^ r.length / 2 = a := by rw [Nat.div_div_eq_div_mul]; simpa [Nat.pow_succ] using hn
    have h0 := hd 0 (by simp)
    simp only [List.getD_cons_zero, List.length_cons, Nat.add_sub_cancel, Nat.sub_zero] at h0
    have hd' : ∀ j, j < r.length → (r.getD j 0 = 48 → n / 2 ^ (r.length - 1 - j) % 2 = 0) ∧ (r.getD j 0 = 49 → n / 2 ^ (r.length - 1 - j) % 2 = 1) := fun j hj => by
      have := hd (j + 1) (by simp; omega)
      simp only [List.getD_cons_succ, List.length_cons, Nat.add_sub_cancel] at this
      have e2 : r.length - (j + 1) = r.length - 1 - j := by omega
      rw [e2] at this
      exact this
    have hb : n / 2 ^ r.length = 2 * a ∨ n / 2 ^ r.length = 2 * a + 1 := by omega
    unfold allFit at h
    by_cases h48 : c = 48
    · rw [if_pos h48] at h
      exact allFit_at P r _ n h (by have := h0.1 h48; omega) hd'
    · rw [if_neg h48] at h
      by_cases h49 : c = 49
      · rw [if_pos h49] at h
        exact allFit_at P r _ n h (by have := h0.2 h49; omega) hd'
      · rw [if_neg h49, Bool.and_eq_true] at h
        rcases hb with hb | hb
        · exact allFit_at P r _ n h.1 hb hd'
        · exact allFit_at P r _ n h.2 hb hd'
def pwF (k : Nat) : Int := ((2 ^ k : Nat) : Int)
theorem pwF_eq (k : Nat) : (2 : Int) ^ k = pwF k := by unfold pwF; rw [Int.natCast_pow]; rfl
def btF (n p : Int) : Int := n / pwF p.toNat % 2
theorem btF_eq (n p : Int) : bt n p = btF n p := by
  unfold bt btF bitz bits
  rw [← pwF_eq]
  simp
end Pn
namespace Pn
end Pn
namespace Pn
theorem half16 : ∀ k, k < 32 → (fm k).half.length = 16 := by decide
theorem bt_nat (n j : Nat) (hj : j < 16) : bitz (n : Int) (15 - (j : Int)) (15 - (j : Int)) = ((n / 2 ^ (15 - j) % 2 : Nat) : Int) := by
  have e : (15 - (j : Int)).toNat = 15 - j := by omega
  have h := btF_eq (n : Int) (15 - (j : Int))
  unfold bt at h
  rw [h]
  unfold btF pwF
  rw [e]
  omega
theorem fit_digit {l : List UInt8} {n : Nat} (hl : l.length = 16) (h : fitB l n = true) (j : Nat) (hj : j < 16) :
    (l.getD j 0 = 48 → n / 2 ^ (15 - j) % 2 = 0) ∧ (l.getD j 0 = 49 → n / 2 ^ (15 - j) % 2 = 1) := by
  unfold fitB at h
  rw [List.all_eq_true] at h
  have hj2 := h j (by simp [hl]; exact hj)
  unfold fitJ at hj2
  constructor
  · intro e
    rw [e] at hj2
    simp at hj2
    rw [bt_nat n j hj] at hj2
    omega
  · intro e
    rw [e] at hj2
    simp at hj2
    rw [bt_nat n j hj] at hj2
    omega
def partB (l m : List UInt8) : Bool := (List.range 16).any fun j => (l.getD j 0 == 48 && m.getD j 0 == 49) || (l.getD j 0 == 49 && m.getD j 0 == 48)
theorem part_no {l m : List UInt8} {n : Nat} (hl : l.length = 16) (hm : m.length = 16) (h : partB l m = true) (h1 : fitB l n = true) (h2 : fitB m n = true) : False := by
  unfold partB at h
  rw [List.any_eq_true] at h
  obtain ⟨j, hj, h⟩ := h
  have hj : j < 16 := by simpa using hj
  have d1 := fit_digit hl h1 j hj
  have d2 := fit_digit hm h2 j hj
  simp at h
  rcases h with ⟨a, b⟩ | ⟨a, b⟩
  · have := d1.1 a; have := d2.2 b; omega
  · have := d1.2 a; have := d2.1 b; omega
def spec (j k : Nat) : Bool := (j == 8 && k == 9) || (j == 25 && k == 26) || (j == 27 && k == 28) || (j == 27 && k == 29) || (j == 28 && k == 29)
theorem parted0 : ((List.range 32).all fun j => (List.range 32).all fun k => !(decide (j < k)) || partB (fm j).half (fm k).half || spec j k) = true := by decide +kernel
theorem parted {j k : Nat} (hk : k < 32) (hjk : j < k) : partB (fm j).half (fm k).half = true ∨ spec j k = true := by
  have h := parted0
  rw [List.all_eq_true] at h
  have h1 := h j (by simp; omega)
  rw [List.all_eq_true] at h1
  have h2 := h1 k (by simp; omega)
  simp [hjk] at h2
  exact h2
def noHold (k n : Nat) : Bool := !(holdB (fm k).hold (readIns (fm k) n))
theorem no_8_9 : allFit (noHold 9) (fm 8).half 0 = true := by decide +kernel
theorem no_25_26 : allFit (noHold 26) (fm 25).half 0 = true := by decide +kernel
theorem no_27_28 : allFit (noHold 28) (fm 27).half 0 = true := by decide +kernel
theorem no_27_29 : allFit (noHold 29) (fm 27).half 0 = true := by decide +kernel
theorem no_28_29 : allFit (noHold 29) (fm 28).half 0 = true := by decide +kernel
theorem no_at {j k n : Nat} (hj : j < 32) (hn : n < 65536) (h : allFit (noHold k) (fm j).half 0 = true) (hf : fitB (fm j).half n = true) : holdB (fm k).hold (readIns (fm k) n) = false := by
  have hl := half16 j hj
  have := allFit_at (noHold k) (fm j).half 0 n h (by rw [hl]; omega) (fun x hx => by
    rw [hl] at hx ⊢
    exact fit_digit hl hf x hx)
  simpa [noHold] using this
theorem hit_fit {n : Int} {k : Nat} (h : eHit n k = true) : fitB (fm k).half n = true ∧ holdB (fm k).hold (readIns (fm k) n) = true ∧ readP (fm k) n = (readIns (fm k) n, true) := by
  unfold eHit readP at h
  by_cases hf : fitB (fm k).half n = true
  · rw [if_pos hf] at h
    exact ⟨hf, h, by unfold readP; rw [if_pos hf, show holdB (fm k).hold (readIns (fm k) n) = true from h]⟩
  · rw [if_neg hf] at h; cases h
theorem hit_lt {n j k : Nat} (hk : k < 32) (hn : n < 65536) (hjk : j < k) (hj : eHit n j = true) (hk' : eHit n k = true) : False := by
  obtain ⟨f1, _, _⟩ := hit_fit hj
  obtain ⟨f2, h2, _⟩ := hit_fit hk'
  rcases parted hk hjk with h | h
  · exact part_no (half16 j (by omega)) (half16 k hk) h f1 f2
  · have key : holdB (fm k).hold (readIns (fm k) n) = false := by
      simp [spec] at h
      rcases h with (((⟨rfl, rfl⟩ | ⟨rfl, rfl⟩) | ⟨rfl, rfl⟩) | ⟨rfl, rfl⟩) | ⟨rfl, rfl⟩
      · exact no_at (by decide) hn no_8_9 f1
      · exact no_at (by decide) hn no_25_26 f1
      · exact no_at (by decide) hn no_27_28 f1
      · exact no_at (by decide) hn no_27_29 f1
      · exact no_at (by decide) hn no_28_29 f1
    rw [key] at h2; cases h2
theorem hit_one {n j k : Nat} (hj : j < 32) (hk : k < 32) (hn : n < 65536) (h1 : eHit n j = true) (h2 : eHit n k = true) : j = k := by
  rcases Nat.lt_trichotomy j k with h | h | h
  · exact (hit_lt hk hn h h1 h2).elim
  · exact h
  · exact (hit_lt hj hn h h2 h1).elim
theorem exp_of_hit {n k : Nat} (hk : k < 32) (hn : n < 65536) (h : eHit n k = true) : expP n = (readIns (fm k) n, 0) := by
  have e := (hit_fit h).2.2
  rw [exp_hit (by omega) hk (fun j hj => ?_) h, e]
  by_cases hc : eHit n j = true
  · have := hit_one (by omega) hk hn hc h; omega
  · simpa using hc
theorem digits_low : ∀ k, k < 32 → ((fm k).half.getD 14 0 = 48 ∨ ((fm k).half.getD 14 0 = 49 ∧ (fm k).half.getD 15 0 = 48)) := by decide
theorem fit_low {k n : Nat} (hk : k < 32) (hf : fitB (fm k).half n = true) : n % 4 ≠ 3 := by
  have d14 := fit_digit (half16 k hk) hf 14 (by decide)
  have d15 := fit_digit (half16 k hk) hf 15 (by decide)
  rcases digits_low k hk with h | ⟨_, h⟩
  · have := d14.1 h; simp at this; omega
  · have := d15.1 h; simp at this; omega
theorem write_bd {k : Nat} (hk : k < 32) (i : Ins) : 0 ≤ writeP (fm k) i ∧ writeP (fm k) i < 65536 := by
  have hf := fok_all k hk
  have hb := wbase_bd (fm k) hf i
  exact wiR_bd (fm k) _ _ _ hb.1 hb.2 (pl_in (fm k).half 105 (fm k).half.length hf.len) _ (Nat.le_refl _)
theorem insB_eq {a b : Ins} (h : insB a b = true) : a = b := by
  obtain ⟨a1, a2, a3, a4, a5⟩ := a
  obtain ⟨b1, b2, b3, b4, b5⟩ := b
  simp [insB] at h
  obtain ⟨rfl, rfl, rfl, rfl, rfl⟩ := h
  rfl
theorem exp_short {i : Ins} {h : Int} (hs : shortP i = (h, 0)) : expP h = (i, 0) ∧ 0 ≤ h ∧ h ≤ 65535 ∧ h % 4 ≠ 3 ∧ right i = true := by
  unfold shortP at hs
  by_cases hr : right i = true
  · rw [if_pos hr] at hs
    split at hs
    · rename_i k hk
      have hp := List.find?_some hk
      have hk32 : k < 32 := by have := List.mem_of_find?_eq_some hk; simpa using this
      simp only [Prod.mk.injEq, and_true] at hs
      subst hs
      have hb := write_bd hk32 i
      obtain ⟨n, hn⟩ := Int.eq_ofNat_of_zero_le hb.1
      rw [hn] at hb ⊢
      unfold sHit at hp
      rw [hn] at hp
      simp only [Bool.and_eq_true] at hp
      have he : eHit n k = true := hp.2.1
      have hi := insB_eq hp.2.2
      have hx := exp_of_hit hk32 (by omega) he
      have hf := hit_fit he
      rw [hf.2.2] at hi
      simp only at hi
      rw [hx, hi]
      have := fit_low hk32 hf.1
      exact ⟨rfl, by omega, by omega, by omega, hr⟩
    · simp at hs
  · rw [if_neg hr] at hs; simp at hs
end Pn
