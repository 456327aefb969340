import Derived.Test.YtbmcofdodfcnnaaGreatDoorPC
import Derived.Below
namespace Pn
open Go Go.RowKit
theorem tok1_sign (c : UInt8) (r : List UInt8) (h : c = 44 ∨ c = 40 ∨ c = 41 ∨ c = 58 ∨ c = 46) : tok1 c r = some ((c.toNat : Int), 0, 0) := by
  rcases h with rfl | rfl | rfl | rfl | rfl <;> simp [tok1, smallB, digitB]
theorem tok1_word (c : UInt8) (r : List UInt8) (h : smallB c.toNat = true) (n : Nat) (hn : (r.takeWhile alnum).length = n) : tok1 c r = some (119, 0, n) := by
  unfold tok1; rw [if_pos h, hn]
theorem tok1_bad (c : UInt8) (r : List UInt8) (h1 : smallB c.toNat = false) (h2 : digitB c.toNat = false) (h3 : ¬ (c = 45 ∧ (r.head?.map dig) = some true)) (h4 : ¬ (c = 44 ∨ c = 40 ∨ c = 41 ∨ c = 58 ∨ c = 46)) : tok1 c r = none := by
  unfold tok1; simp only [h1, h2, h3, h4, if_false, Bool.false_eq_true]
theorem tok1_dig_long (c : UInt8) (r : List UInt8) (h1 : smallB c.toNat = false) (h2 : digitB c.toNat = true) (n : Nat) (hn : (r.takeWhile dig).length = n) (h : 10 < n + 1) : tok1 c r = none := by
  unfold tok1; simp only [h1, h2, hn, if_false, if_true, Bool.false_eq_true]; rw [if_pos h]
theorem tok1_dig_letter (c : UInt8) (r : List UInt8) (h1 : smallB c.toNat = false) (h2 : digitB c.toNat = true) (n : Nat) (hn : (r.takeWhile dig).length = n) (h : ((r.drop n).head?.map fun d => smallB d.toNat) = some true) : tok1 c r = none := by
  unfold tok1; simp only [h1, h2, hn, if_false, if_true, Bool.false_eq_true]; rw [if_pos h]; split <;> rfl
theorem tok1_dig (c : UInt8) (r : List UInt8) (h1 : smallB c.toNat = false) (h2 : digitB c.toNat = true) (n : Nat) (hn : (r.takeWhile dig).length = n) (h10 : ¬ 10 < n + 1) (h : ((r.drop n).head?.map fun d => smallB d.toNat) ≠ some true) : tok1 c r = some (105, numOf 0 (c :: r.take n), n) := by
  unfold tok1; simp only [h1, h2, hn, if_false, if_true, Bool.false_eq_true]; rw [if_neg h10, if_neg h]
  have e : r.takeWhile dig = r.take n := by rw [← hn]; exact (List.prefix_iff_eq_take.1 (List.takeWhile_prefix _))
  rw [e]
theorem tok1_min_long (r : List UInt8) (h3 : (r.head?.map dig) = some true) (n : Nat) (hn : (r.takeWhile dig).length = n) (h : 10 < n) : tok1 45 r = none := by
  have a : smallB ((45 : UInt8).toNat : Int) = false := rfl
  have b : digitB ((45 : UInt8).toNat : Int) = false := rfl
  unfold tok1; simp only [a, b, hn, h3, if_false, if_true, Bool.false_eq_true, and_self]; rw [if_pos h]
theorem tok1_min_letter (r : List UInt8) (h3 : (r.head?.map dig) = some true) (n : Nat) (hn : (r.takeWhile dig).length = n) (h : ((r.drop n).head?.map fun d => smallB d.toNat) = some true) : tok1 45 r = none := by
  have a : smallB ((45 : UInt8).toNat : Int) = false := rfl
  have b : digitB ((45 : UInt8).toNat : Int) = false := rfl
  unfold tok1; simp only [a, b, hn, h3, if_false, if_true, Bool.false_eq_true, and_self]; rw [if_pos h]; split <;> rfl
theorem tok1_min (r : List UInt8) (h3 : (r.head?.map dig) = some true) (n : Nat) (hn : (r.takeWhile dig).length = n) (h10 : ¬ 10 < n) (h : ((r.drop n).head?.map fun d => smallB d.toNat) ≠ some true) : tok1 45 r = some (105, - numOf 0 (r.take n), n) := by
  have a : smallB ((45 : UInt8).toNat : Int) = false := rfl
  have b : digitB ((45 : UInt8).toNat : Int) = false := rfl
  unfold tok1; simp only [a, b, hn, h3, if_false, if_true, Bool.false_eq_true, and_self]; rw [if_neg h10, if_neg h]
  have e : r.takeWhile dig = r.take n := by rw [← hn]; exact (List.prefix_iff_eq_take.1 (List.takeWhile_prefix _))
  rw [e]
theorem head_at (s : ByteArray) (q : Nat) (h : q < s.size) : (s.data.toList.drop q).head? = some (B s q) := by rw [drop_cons s q h]; rfl
theorem head_end (s : ByteArray) (q : Nat) (h : s.size ≤ q) : (s.data.toList.drop q).head? = none := by
  have : s.data.toList.drop q = [] := by apply List.drop_eq_nil_of_le; simpa using h
  rw [this]; rfl
/-- the number that the bytes from f up to k make -/
def numAt (s : ByteArray) (f k : Nat) : Int := numOf 0 ((s.data.toList.drop f).take (k - f))
theorem numOf_snoc (a : Int) (l : List UInt8) (c : UInt8) : numOf a (l ++ [c]) = 10 * numOf a l + c.toNat - 48 := by
  induction l generalizing a with
  | nil => rfl
  | cons d l ih => simp only [List.cons_append, numOf, ih]
theorem numAt_self (s : ByteArray) (f : Nat) : numAt s f f = 0 := by simp [numAt, numOf]
theorem numAt_succ (s : ByteArray) (f k : Nat) (hf : f ≤ k) (hk : k < s.size) : numAt s f (k + 1) = 10 * numAt s f k + (B s k).toNat - 48 := by
  unfold numAt
  have hl : k - f < (s.data.toList.drop f).length := by simp; omega
  have e : k + 1 - f = (k - f) + 1 := by omega
  rw [e, List.take_succ_eq_append_getElem hl, numOf_snoc]
  have : (s.data.toList.drop f)[k - f] = B s k := by
    rw [List.getElem_drop, ← B_eq s k hk]
    have : f + (k - f) = k := by omega
    simp only [this]; rfl
  rw [this]
theorem digit_bd {c : Int} (h : digitB c = true) : 48 ≤ c ∧ c ≤ 57 := by simpa [digitB] using h
theorem numAt_bd (s : ByteArray) (f k : Nat) (hf : f ≤ k) (hk : k ≤ s.size) (hd : ∀ q, f ≤ q → q < k → digitB (B s q).toNat = true) : 0 ≤ numAt s f k ∧ numAt s f k < 10 ^ (k - f) := by
  induction k with
  | zero => have : f = 0 := by omega
            subst this; rw [numAt_self]; simp
  | succ k ih =>
    by_cases e : f = k + 1
    · subst e; rw [numAt_self]; simp
    · have h1 := ih (by omega) (by omega) (fun q a b => hd q a (by omega))
      have h2 := digit_bd (hd k (by omega) (by omega))
      rw [numAt_succ s f k (by omega) (by omega)]
      have e2 : k + 1 - f = (k - f) + 1 := by omega
      rw [e2, Int.pow_succ]
      omega
theorem numAt_bd10 (s : ByteArray) (f k : Nat) (hf : f ≤ k) (hk : k ≤ s.size) (h10 : k - f ≤ 10) (hd : ∀ q, f ≤ q → q < k → digitB (B s q).toNat = true) : 0 ≤ numAt s f k ∧ numAt s f k ≤ 10000000000 := by
  have h := numAt_bd s f k hf hk hd
  have hp : (10 : Int) ^ (k - f) ≤ 10 ^ 10 := by
    have := Nat.pow_le_pow_right (n := 10) (by omega) h10
    exact_mod_cast this
  have e : (10 : Int) ^ 10 = 10000000000 := by decide
  omega
theorem numAt_first (s : ByteArray) (f n : Nat) (hf : f < s.size) (hn : 1 ≤ n) : numAt s f (f + n) = numOf 0 (B s f :: (s.data.toList.drop (f + 1)).take (n - 1)) := by
  unfold numAt
  obtain ⟨m, rfl⟩ : ∃ m, n = m + 1 := ⟨n - 1, by omega⟩
  rw [drop_cons s f hf]
  have e : f + (m + 1) - f = m + 1 := by omega
  rw [e]; simp
theorem chars (c : UInt8) : c = 35 ∨ c = 32 ∨ c = 9 ∨ c = 44 ∨ c = 40 ∨ c = 41 ∨ c = 58 ∨ c = 46 ∨ c = 45 ∨
    (((c.toNat : Int) != 35) = true ∧ ((c.toNat : Int) == 32) = false ∧ ((c.toNat : Int) == 9) = false ∧ ((c.toNat : Int) == 44) = false ∧ ((c.toNat : Int) == 40) = false ∧ ((c.toNat : Int) == 41) = false ∧
      ((c.toNat : Int) == 58) = false ∧ ((c.toNat : Int) == 46) = false ∧ ((c.toNat : Int) == 45) = false ∧ Hid (c ≠ 35) ∧ Hid (¬ (c = 32 ∨ c = 9)) ∧ Hid (¬ (c = 44 ∨ c = 40 ∨ c = 41 ∨ c = 58 ∨ c = 46)) ∧ Hid (c ≠ 45)) := by
  have key : ∀ n : Nat, n < 256 → c ≠ UInt8.ofNat n → (c.toNat : Int) ≠ (n : Int) := fun n hn h he => h (u8_eq he)
  by_cases h1 : c = 35; · exact .inl h1
  by_cases h2 : c = 32; · exact .inr (.inl h2)
  by_cases h3 : c = 9; · exact .inr (.inr (.inl h3))
  by_cases h4 : c = 44; · exact .inr (.inr (.inr (.inl h4)))
  by_cases h5 : c = 40; · exact .inr (.inr (.inr (.inr (.inl h5))))
  by_cases h6 : c = 41; · exact .inr (.inr (.inr (.inr (.inr (.inl h6)))))
  by_cases h7 : c = 58; · exact .inr (.inr (.inr (.inr (.inr (.inr (.inl h7))))))
  by_cases h8 : c = 46; · exact .inr (.inr (.inr (.inr (.inr (.inr (.inr (.inl h8)))))))
  by_cases h9 : c = 45; · exact .inr (.inr (.inr (.inr (.inr (.inr (.inr (.inr (.inl h9))))))))
  refine .inr (.inr (.inr (.inr (.inr (.inr (.inr (.inr (.inr ?_))))))))
  refine ⟨bne_iff_ne.2 (key 35 (by omega) h1), beq_eq_false_iff_ne.2 (key 32 (by omega) h2), beq_eq_false_iff_ne.2 (key 9 (by omega) h3), beq_eq_false_iff_ne.2 (key 44 (by omega) h4), beq_eq_false_iff_ne.2 (key 40 (by omega) h5),
    beq_eq_false_iff_ne.2 (key 41 (by omega) h6), beq_eq_false_iff_ne.2 (key 58 (by omega) h7), beq_eq_false_iff_ne.2 (key 46 (by omega) h8), beq_eq_false_iff_ne.2 (key 45 (by omega) h9), h1, ?_, ?_, h9⟩
  · rintro (h | h); exact h2 h; exact h3 h
  · rintro (h | h | h | h | h); exact h4 h; exact h5 h; exact h6 h; exact h7 h; exact h8 h
theorem run_more {p : UInt8 → Bool} {s : ByteArray} {i m : Nat} (h : ∀ q, 1 ≤ q → q < m → p (B s (i + q)) = true) (hm : p (B s (i + m)) = true) : ∀ q, 1 ≤ q → q < m + 1 → p (B s (i + q)) = true := fun q h1 h2 => by
  by_cases e : q = m
  · rw [e]; exact hm
  · exact h q h1 (by omega)
theorem let_at (s : ByteArray) (j m : Nat) (hm : 1 ≤ m) (h : j + m < s.size) (hl : smallB (B s (j + m)).toNat = true) :
    ((((s.data.toList.drop (j + 1)).drop (m - 1)).head?.map fun d => smallB d.toNat) = some true) := by
  have e : j + 1 + (m - 1) = j + m := by omega
  rw [List.drop_drop, e, head_at s (j + m) h]; simp [hl]
theorem let_not (s : ByteArray) (j m : Nat) (hm : 1 ≤ m) (h : j + m < s.size) (hl : smallB (B s (j + m)).toNat = false) :
    ((((s.data.toList.drop (j + 1)).drop (m - 1)).head?.map fun d => smallB d.toNat) ≠ some true) := by
  have e : j + 1 + (m - 1) = j + m := by omega
  rw [List.drop_drop, e, head_at s (j + m) h]; simp [hl]
theorem let_end (s : ByteArray) (j m : Nat) (hm : 1 ≤ m) (h : s.size ≤ j + m) :
    ((((s.data.toList.drop (j + 1)).drop (m - 1)).head?.map fun d => smallB d.toNat) ≠ some true) := by
  have e : j + 1 + (m - 1) = j + m := by omega
  rw [List.drop_drop, e, head_end s (j + m) h]; simp
theorem head_dig (s : ByteArray) (j : Nat) (h : j + 1 < s.size) (hd : digitB (B s (j + 1)).toNat = true) : ((s.data.toList.drop (j + 1)).head?.map dig) = some true := by
  rw [head_at s (j + 1) h]; simp [dig, hd]
theorem digs_min {s : ByteArray} {j m : Nat} (h : ∀ q, 1 ≤ q → q < m → dig (B s (j + q)) = true) : ∀ q, j + 1 ≤ q → q < j + m → digitB (B s q).toNat = true := fun q h1 h2 => by
  have := h (q - j) (by omega) (by omega)
  have e : j + (q - j) = q := by omega
  rw [e] at this; exact this
theorem digs_all {s : ByteArray} {j m : Nat} (h0 : digitB (B s j).toNat = true) (h : ∀ q, 1 ≤ q → q < m → dig (B s (j + q)) = true) : ∀ q, j ≤ q → q < j + m → digitB (B s q).toNat = true := fun q h1 h2 => by
  by_cases e : q = j
  · rw [e]; exact h0
  · exact digs_min h q (by omega) h2
theorem numAt_min (s : ByteArray) (j m : Nat) (hm : 1 ≤ m) : numAt s (j + 1) (j + m) = numOf 0 ((s.data.toList.drop (j + 1)).take (m - 1)) := by
  unfold numAt
  have e : j + m - (j + 1) = m - 1 := by omega
  rw [e]
end Pn
namespace Pn
open Go Go.RowKit
/-- all bytes from 1 on are digits -/
def digs1 (S : ByteArray) (k : Nat) : Bool := decide (∀ q, q < k → 1 ≤ q → digitB (B S q).toNat = true)
/-- the register that a token is, or -1 -/
def regV (kd : Int) (S : ByteArray) : Int :=
  if kd = 119 ∧ 2 ≤ S.size ∧ S.size ≤ 3 ∧ (B S 0).toNat = 120 ∧ digs1 S S.size = true ∧ numAt S 1 S.size ≤ 31 ∧ ¬ (S.size = 3 ∧ (B S 1).toNat = 48) then numAt S 1 S.size else -1
theorem regV_no {kd : Int} {S : ByteArray} (h : ¬ (kd = 119 ∧ 2 ≤ S.size ∧ S.size ≤ 3 ∧ (B S 0).toNat = 120 ∧ digs1 S S.size = true ∧ numAt S 1 S.size ≤ 31 ∧ ¬ (S.size = 3 ∧ (B S 1).toNat = 48))) : regV kd S = -1 := by
  unfold regV; rw [if_neg h]
theorem digs1_one (S : ByteArray) : digs1 S 1 = true := by
  unfold digs1
  rw [decide_eq_true_eq]
  intro q h1 h2; omega
theorem digs1_succ {S : ByteArray} {k : Nat} (h : digs1 S k = true) (hd : digitB (B S k).toNat = true) : digs1 S (k + 1) = true := by
  unfold digs1 at *
  simp only [decide_eq_true_eq] at *
  intro q h1 h2
  by_cases e : q = k
  · rw [e]; exact hd
  · exact h q (by omega) h2
theorem digs1_no {S : ByteArray} {k n : Nat} (hk : 1 ≤ k) (hn : k < n) (hd : digitB (B S k).toNat = false) : digs1 S n ≠ true := by
  unfold digs1
  rw [ne_eq, decide_eq_true_eq]
  intro h
  have := h k hn hk
  rw [hd] at this; cases this
theorem digs1_all {S : ByteArray} {k : Nat} (h : digs1 S k = true) : ∀ q, 1 ≤ q → q < k → digitB (B S q).toNat = true := by
  unfold digs1 at h
  simp only [decide_eq_true_eq] at h
  exact fun q a b => h q b a
theorem regV_bd (kd : Int) (S : ByteArray) : -1 ≤ regV kd S ∧ regV kd S ≤ 31 := by
  unfold regV
  split
  · rename_i h
    have := numAt_bd S 1 S.size (by omega) (by omega) (digs1_all h.2.2.2.2.1)
    omega
  · omega
end Pn
namespace Pn
open Go Go.RowKit
def Tok.S (t : Tok) : ByteArray := ⟨t.text.toArray⟩
/-- operands by their form: registers, number, name -/
def opnd : List Tok → List UInt8 → List Int → Int → ByteArray → Option (List Int × Int × ByteArray)
  | [], [], rs, n, nm => some (rs, n, nm)
  | t :: l, f :: F, rs, n, nm =>
    if f = 114 then (if regV t.kind t.S < 0 then none else opnd l F (rs ++ [regV t.kind t.S]) n nm)
    else if (f = 105 ∨ f = 116) ∧ t.kind = 105 then opnd l F rs t.num nm
    else if f = 116 ∧ t.kind = 119 ∧ t.S.size ≤ 8 then opnd l F rs n t.S
    else if (f.toNat : Int) = t.kind ∧ f ≠ 105 then opnd l F rs n nm
    else none
  | _, _, _, _, _ => none
theorem opnd_len : ∀ (l : List Tok) (F : List UInt8) (rs : List Int) (n : Int) (nm : ByteArray), l.length ≠ F.length → opnd l F rs n nm = none
  | [], [], _, _, _, h => by simp at h
  | [], f :: F, _, _, _, _ => by simp [opnd]
  | t :: l, [], _, _, _, _ => by simp [opnd]
  | t :: l, f :: F, rs, n, nm, h => by
    have h' : l.length ≠ F.length := by simpa using h
    simp only [opnd]
    repeat' split
    all_goals first | rfl | exact opnd_len l F _ _ _ h'
theorem f_is {f : UInt8} {n : Nat} (h : ((f.toNat : Int) == (n : Int)) = true) : f = UInt8.ofNat n := u8_eq (by simpa using h)
theorem opnd_nil (rs : List Int) (n : Int) (nm : ByteArray) : opnd [] [] rs n nm = some (rs, n, nm) := by simp [opnd]
theorem opnd_r {f : UInt8} (hf : f = 114) (t : Tok) (l : List Tok) (F : List UInt8) (rs : List Int) (n : Int) (nm : ByteArray) (h : ¬ regV t.kind t.S < 0) : opnd (t :: l) (f :: F) rs n nm = opnd l F (rs ++ [regV t.kind t.S]) n nm := by
  subst hf; simp only [opnd, if_true]; rw [if_neg h]
theorem opnd_r_no {f : UInt8} (hf : f = 114) (t : Tok) (l : List Tok) (F : List UInt8) (rs : List Int) (n : Int) (nm : ByteArray) (h : regV t.kind t.S < 0) : opnd (t :: l) (f :: F) rs n nm = none := by
  subst hf; simp only [opnd, if_true]; rw [if_pos h]
theorem opnd_i {f : UInt8} (hf : f ≠ 114) (hf2 : f = 105 ∨ f = 116) (t : Tok) (l : List Tok) (F : List UInt8) (rs : List Int) (n : Int) (nm : ByteArray) (h : t.kind = 105) : opnd (t :: l) (f :: F) rs n nm = opnd l F rs t.num nm := by
  simp only [opnd]; rw [if_neg hf, if_pos ⟨hf2, h⟩]
theorem opnd_t {f : UInt8} (hf : f = 116) (t : Tok) (l : List Tok) (F : List UInt8) (rs : List Int) (n : Int) (nm : ByteArray) (h : t.kind = 119) (h8 : t.S.size ≤ 8) : opnd (t :: l) (f :: F) rs n nm = opnd l F rs n t.S := by
  subst hf; simp only [opnd]; rw [if_neg (by decide), if_neg (by rw [h]; omega), if_pos ⟨trivial, h, h8⟩]
theorem opnd_s {f : UInt8} (hf : f ≠ 114) (t : Tok) (l : List Tok) (F : List UInt8) (rs : List Int) (n : Int) (nm : ByteArray) (h1 : ¬ ((f = 105 ∨ f = 116) ∧ t.kind = 105)) (h2 : ¬ (f = 116 ∧ t.kind = 119 ∧ t.S.size ≤ 8)) (h3 : (f.toNat : Int) = t.kind) (h4 : f ≠ 105) : opnd (t :: l) (f :: F) rs n nm = opnd l F rs n nm := by
  simp only [opnd]; rw [if_neg hf, if_neg h1, if_neg h2, if_pos ⟨h3, h4⟩]
theorem opnd_no {f : UInt8} (hf : f ≠ 114) (t : Tok) (l : List Tok) (F : List UInt8) (rs : List Int) (n : Int) (nm : ByteArray) (h1 : ¬ ((f = 105 ∨ f = 116) ∧ t.kind = 105)) (h2 : ¬ (f = 116 ∧ t.kind = 119 ∧ t.S.size ≤ 8)) (h3 : ¬ ((f.toNat : Int) = t.kind ∧ f ≠ 105)) : opnd (t :: l) (f :: F) rs n nm = none := by
  simp only [opnd]; rw [if_neg hf, if_neg h1, if_neg h2, if_neg h3]
end Pn
namespace Pn
open Go Go.RowKit
def bytes (l : List UInt8) : ByteArray := ⟨l.toArray⟩
/-- a kind's form -/
def formOf (kd : Nat) : List UInt8 :=
  if kd = 82 then [114, 44, 114, 44, 114] else if kd = 73 ∨ kd = 72 ∨ kd = 87 then [114, 44, 114, 44, 105] else if kd = 76 ∨ kd = 83 then [114, 44, 105, 40, 114, 41]
  else if kd = 66 then [114, 44, 114, 44, 116] else if kd = 85 then [114, 44, 105] else if kd = 74 then [114, 44, 116] else []
/-- the instruction of op k + 1 by its registers and number -/
def insOf (k : Nat) (rs : List Int) (n : Int) : Ins :=
  if (row k).kind = 82 then ⟨k + 1, rs.getD 0 0, rs.getD 1 0, rs.getD 2 0, n⟩
  else if (row k).kind = 73 ∨ (row k).kind = 72 ∨ (row k).kind = 87 ∨ (row k).kind = 76 then ⟨k + 1, rs.getD 0 0, rs.getD 1 0, 0, n⟩
  else if (row k).kind = 83 then ⟨k + 1, 0, rs.getD 1 0, rs.getD 0 0, n⟩
  else if (row k).kind = 66 then ⟨k + 1, 0, rs.getD 0 0, rs.getD 1 0, n⟩
  else if (row k).kind = 85 ∨ (row k).kind = 74 then ⟨k + 1, rs.getD 0 0, 0, 0, n⟩
  else ⟨k + 1, 0, 0, 0, n⟩
/-- is token t the name of op k + 1? -/
def named (t : Tok) (k : Nat) : Bool := (t.kind == 119) && (t.text == (row k).name)
/-- an instruction by its name: it, its target, the error -/
def plain (t : Tok) (l : List Tok) (targets : Bool) : Ins × ByteArray × Int :=
  match (List.range 64).find? (named t) with
  | none => (⟨0, 0, 0, 0, 0⟩, ⟨#[]⟩, 4)
  | some k =>
    match opnd l (formOf (row k).kind) [] 0 ⟨#[]⟩ with
    | none => (⟨0, 0, 0, 0, 0⟩, ⟨#[]⟩, 4)
    | some (rs, n, nm) =>
      if nm.data.toList ≠ [] ∧ targets = false then (⟨0, 0, 0, 0, 0⟩, ⟨#[]⟩, 4)
      else if right (insOf k rs n) then (insOf k rs n, nm, 0) else (insOf k rs n, nm, 5)
theorem opnd_regs : ∀ (l : List Tok) (F : List UInt8) (rs : List Int) (n : Int) (nm : ByteArray) (rs' : List Int) (n' : Int) (nm' : ByteArray), opnd l F rs n nm = some (rs', n', nm') → rs'.length = rs.length + F.count 114
  | [], [], rs, n, nm, rs', n', nm', h => by simp [opnd] at h; simp [h.1]
  | [], f :: F, _, _, _, _, _, _, h => by simp [opnd] at h
  | t :: l, [], _, _, _, _, _, _, h => by simp [opnd] at h
  | t :: l, f :: F, rs, n, nm, rs', n', nm', h => by
    simp only [opnd] at h
    split at h
    · rename_i hf
      split at h
      · cases h
      · have := opnd_regs l F _ _ _ _ _ _ h
        simp [hf] at this ⊢; omega
    · rename_i hf
      have hc : (f :: F).count 114 = F.count 114 := by rw [List.count_cons]; simp [hf]
      rw [hc]
      repeat' split at h
      all_goals first | exact opnd_regs l F _ _ _ _ _ _ h | cases h
theorem named_kind {t : Tok} {k : Nat} (h : (t.kind != 119) = true) : named t k = false := by
  have : (t.kind == 119) = false := by simpa using h
  simp [named, this]
theorem S_list (t : Tok) : t.S.toList = t.text := by simp [Tok.S]
theorem named_not {t : Tok} {k : Nat} (h : (t.S.toList == (row k).name) = false) : named t k = false := by
  rw [S_list] at h
  simp [named, h]
theorem named_yes {t : Tok} {k : Nat} (h : (t.kind != 119) = false) (h2 : (t.S.toList == (row k).name) = true) : named t k = true := by
  rw [S_list] at h2
  have : (t.kind == 119) = true := by simpa using h
  simp only [named, this, h2, Bool.and_self]
theorem no_more {p : Nat → Bool} {k : Nat} (h : ∀ j, j < k → p j = false) (hk : p k = false) : ∀ j, j < k + 1 → p j = false := fun j hj => by
  by_cases e : j = k
  · rw [e]; exact hk
  · exact h j (by omega)
theorem plain_none {t : Tok} {l : List Tok} {k : Nat} (h : (List.range 64).find? (named t) = some k) (ho : opnd l (formOf (row k).kind) [] 0 ⟨#[]⟩ = none) (tg : Bool) : plain t l tg = (⟨0, 0, 0, 0, 0⟩, ⟨#[]⟩, 4) := by
  simp only [plain, h, ho]
theorem plain_noname {t : Tok} (h : (List.range 64).find? (named t) = none) (l : List Tok) (tg : Bool) : plain t l tg = (⟨0, 0, 0, 0, 0⟩, ⟨#[]⟩, 4) := by
  simp only [plain, h]
theorem plain_target {t : Tok} {l : List Tok} {k : Nat} {rs : List Int} {n : Int} {nm : ByteArray} (h : (List.range 64).find? (named t) = some k) (ho : opnd l (formOf (row k).kind) [] 0 ⟨#[]⟩ = some (rs, n, nm)) (h1 : nm.toList.isEmpty = false) : plain t l false = (⟨0, 0, 0, 0, 0⟩, ⟨#[]⟩, 4) := by
  rw [ByteArray.toList_eq] at h1
  have : nm.data.toList ≠ [] := by intro e; rw [e] at h1; cases h1
  simp only [plain, h, ho]; rw [if_pos ⟨this, trivial⟩]
theorem plain_some {t : Tok} {l : List Tok} {k : Nat} {rs : List Int} {n : Int} {nm : ByteArray} {tg : Bool} (h : (List.range 64).find? (named t) = some k) (ho : opnd l (formOf (row k).kind) [] 0 ⟨#[]⟩ = some (rs, n, nm)) (h1 : nm.toList.isEmpty = true ∨ tg = true) :
    plain t l tg = (insOf k rs n, nm, if right (insOf k rs n) then 0 else 5) := by
  rw [ByteArray.toList_eq] at h1
  have : ¬ (nm.data.toList ≠ [] ∧ tg = false) := by
    rintro ⟨a, b⟩
    rcases h1 with h1 | h1
    · exact a (by simpa using h1)
    · rw [h1] at b; cases b
  simp only [plain, h, ho]; rw [if_neg this]; split <;> rfl
theorem insOf_R (k : Nat) (rs : List Int) (n : Int) (h : (row k).kind = 82) : insOf k rs n = ⟨k + 1, rs.getD 0 0, rs.getD 1 0, rs.getD 2 0, n⟩ := by
  unfold insOf; rw [if_pos (by omega)]
theorem insOf_I (k : Nat) (rs : List Int) (n : Int) (h : (row k).kind = 73 ∨ (row k).kind = 72 ∨ (row k).kind = 87 ∨ (row k).kind = 76) : insOf k rs n = ⟨k + 1, rs.getD 0 0, rs.getD 1 0, 0, n⟩ := by
  unfold insOf; rw [if_neg (by omega), if_pos (by omega)]
theorem insOf_S (k : Nat) (rs : List Int) (n : Int) (h : (row k).kind = 83) : insOf k rs n = ⟨k + 1, 0, rs.getD 1 0, rs.getD 0 0, n⟩ := by
  unfold insOf; rw [if_neg (by omega), if_neg (by omega), if_pos (by omega)]
theorem insOf_B (k : Nat) (rs : List Int) (n : Int) (h : (row k).kind = 66) : insOf k rs n = ⟨k + 1, 0, rs.getD 0 0, rs.getD 1 0, n⟩ := by
  unfold insOf; rw [if_neg (by omega), if_neg (by omega), if_neg (by omega), if_pos (by omega)]
theorem insOf_U (k : Nat) (rs : List Int) (n : Int) (h : (row k).kind = 85 ∨ (row k).kind = 74) : insOf k rs n = ⟨k + 1, rs.getD 0 0, 0, 0, n⟩ := by
  unfold insOf; rw [if_neg (by omega), if_neg (by omega), if_neg (by omega), if_neg (by omega), if_pos (by omega)]
theorem insOf_N (k : Nat) (rs : List Int) (n : Int) (h : (row k).kind = 78) : insOf k rs n = ⟨k + 1, 0, 0, 0, n⟩ := by
  unfold insOf; rw [if_neg (by omega), if_neg (by omega), if_neg (by omega), if_neg (by omega), if_neg (by omega)]
end Pn
namespace Pn
open Go Go.RowKit
/-- how many of the first k bytes are c -/
def cnt (s : ByteArray) (c : Int) : Nat → Int
  | 0 => 0
  | k + 1 => cnt s c k + if ((B s k).toNat : Int) = c then 1 else 0
theorem cnt_bd (s : ByteArray) (c : Int) : ∀ k, 0 ≤ cnt s c k ∧ cnt s c k ≤ k
  | 0 => by simp [cnt]
  | k + 1 => by have := cnt_bd s c k; simp only [cnt]; split <;> omega
theorem cnt_yes {s : ByteArray} {c : Int} {k : Nat} (h : (((B s k).toNat : Int) == c) = true) : cnt s c (k + 1) = cnt s c k + 1 := by
  simp only [cnt]; rw [if_pos (by simpa using h)]
theorem cnt_no {s : ByteArray} {c : Int} {k : Nat} (h : (((B s k).toNat : Int) == c) = false) : cnt s c (k + 1) = cnt s c k := by
  simp only [cnt]; rw [if_neg (by simpa using h)]; omega
end Pn
namespace Pn
open Go Go.RowKit
theorem toks_len : ∀ (n : Nat) (l : List UInt8) (b : Bool) (A : List Tok), l.length ≤ n → toks l b = some A → A.length ≤ l.length
  | n, [], b, A, _, h => by rw [toks_nil] at h; cases h; simp
  | 0, c :: r, b, A, hn, _ => by simp at hn
  | n + 1, c :: r, b, A, hn, h => by
    have hr : r.length ≤ n := by simpa using hn
    rw [toks_at] at h
    split at h
    · cases h; simp
    · split at h
      · have := toks_len n r true A hr h
        simp; omega
      · split at h
        · cases h
        · rename_i k v m _
          cases ht : toks (r.drop m) false with
          | none => rw [ht] at h; cases h
          | some A' =>
            rw [ht] at h
            have := toks_len n (r.drop m) false A' (by simp; omega) ht
            simp only [Option.map_some, Option.some.injEq] at h
            rw [← h]
            simp at this ⊢; omega
/-- Read's answer -/
def rd (s : ByteArray) : Ins × Int :=
  if 2000 < s.size then (⟨0, 0, 0, 0, 0⟩, 4)
  else match toks s.data.toList false with
    | none => (⟨0, 0, 0, 0, 0⟩, 4)
    | some [] => (⟨0, 0, 0, 0, 0⟩, 4)
    | some (t :: l) =>
      if 0 < cnt s 10 s.size then (⟨0, 0, 0, 0, 0⟩, 4)
      else if (plain t l false).2.2 = 0 then ((plain t l false).1, 0) else (⟨0, 0, 0, 0, 0⟩, (plain t l false).2.2)
theorem rd_long {s : ByteArray} (h : 2000 < s.size) : rd s = (⟨0, 0, 0, 0, 0⟩, 4) := by unfold rd; rw [if_pos h]
theorem rd_none {s : ByteArray} (h : ¬ 2000 < s.size) (ht : toks s.data.toList false = none) : rd s = (⟨0, 0, 0, 0, 0⟩, 4) := by unfold rd; rw [if_neg h, ht]
theorem rd_nil {s : ByteArray} (h : ¬ 2000 < s.size) (ht : toks s.data.toList false = some []) : rd s = (⟨0, 0, 0, 0, 0⟩, 4) := by unfold rd; rw [if_neg h, ht]
theorem rd_lf {s : ByteArray} {t : Tok} {l : List Tok} (h : ¬ 2000 < s.size) (ht : toks s.data.toList false = some (t :: l)) (hc : 0 < cnt s 10 s.size) : rd s = (⟨0, 0, 0, 0, 0⟩, 4) := by
  unfold rd; rw [if_neg h, ht]; simp only; rw [if_pos hc]
theorem rd_ok {s : ByteArray} {t : Tok} {l : List Tok} (h : ¬ 2000 < s.size) (ht : toks s.data.toList false = some (t :: l)) (hc : ¬ 0 < cnt s 10 s.size) (hp : (plain t l false).2.2 = 0) : rd s = ((plain t l false).1, 0) := by
  unfold rd; rw [if_neg h, ht]; simp only; rw [if_neg hc, if_pos hp]
theorem rd_bad {s : ByteArray} {t : Tok} {l : List Tok} (h : ¬ 2000 < s.size) (ht : toks s.data.toList false = some (t :: l)) (hc : ¬ 0 < cnt s 10 s.size) (hp : (plain t l false).2.2 ≠ 0) : rd s = (⟨0, 0, 0, 0, 0⟩, (plain t l false).2.2) := by
  unfold rd; rw [if_neg h, ht]; simp only; rw [if_neg hc, if_neg hp]
end Pn
