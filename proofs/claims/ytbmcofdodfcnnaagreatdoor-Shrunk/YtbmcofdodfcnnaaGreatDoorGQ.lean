import Derived.Test.YtbmcofdodfcnnaaGreatDoorGP
import Derived.Lib.ItoaNum
import Derived.Below
import Derived.Lib.Strings
import Derived.Lib.AtoiAll
import Derived.Lib.IndexMore
namespace Pn
open Go
/-- a register's text -/
def regL (n : Int) : List UInt8 := 120 :: Lib.itoa n
/-- the text behind the name -/
def behind (kd : Nat) (d s t n : List UInt8) : List UInt8 :=
  if kd = 82 then 32 :: d ++ [44, 32] ++ s ++ [44, 32] ++ t
  else if kd = 73 ∨ kd = 72 ∨ kd = 87 then 32 :: d ++ [44, 32] ++ s ++ [44, 32] ++ n
  else if kd = 76 then 32 :: d ++ [44, 32] ++ n ++ [40] ++ s ++ [41]
  else if kd = 83 then 32 :: t ++ [44, 32] ++ n ++ [40] ++ s ++ [41]
  else if kd = 66 then 32 :: s ++ [44, 32] ++ t ++ [44, 32] ++ n
  else if kd = 85 ∨ kd = 74 then 32 :: d ++ [44, 32] ++ n
  else []
def showL (k : Nat) (rd rs1 rs2 imm : Int) : List UInt8 := (row k).name ++ behind (row k).kind (regL rd) (regL rs1) (regL rs2) (Lib.itoa imm)
def shw (i : Ins) : List UInt8 × Int := if right i then (showL (i.op - 1).toNat i.rd i.rs1 i.rs2 i.imm, 0) else ([], 1)
theorem shw_not {i : Ins} (h : right i = false) : shw i = ([], 1) := by unfold shw; simp [h]
theorem shw_yes {k : Nat} {rd rs1 rs2 imm : Int} (h : right ⟨k + 1, rd, rs1, rs2, imm⟩ = true) : shw ⟨k + 1, rd, rs1, rs2, imm⟩ = (showL k rd rs1 rs2 imm, 0) := by
  unfold shw
  have e : ((k : Int) + 1 - 1).toNat = k := by omega
  simp only [h, if_true, e]
theorem row_name : ∀ k, k < 64 → (row k).name.length ≤ 8 := by decide
end Pn
namespace Pn
open Go
def smallB (c : Int) : Bool := decide (97 ≤ c) && decide (c ≤ 122)
def digitB (c : Int) : Bool := decide (48 ≤ c) && decide (c ≤ 57)
structure Tok where
  kind : Int
  text : List UInt8
  num : Int
  blank : Bool
def tokCells (t : Tok) : List Value := [.int .u8 t.kind, .string ⟨t.text.toArray⟩, .int .i64 t.num, .bool t.blank]
def alnum (c : UInt8) : Bool := smallB c.toNat || digitB c.toNat
def dig (c : UInt8) : Bool := digitB c.toNat
/-- the number that digits make, on top of a -/
def numOf (a : Int) : List UInt8 → Int
  | [] => a
  | c :: l => numOf (10 * a + c.toNat - 48) l
/-- one token behind its first byte: kind, number, how many bytes more -/
def tok1 (c : UInt8) (r : List UInt8) : Option (Int × Int × Nat) :=
  if smallB c.toNat then some (119, 0, (r.takeWhile alnum).length)
  else if digitB c.toNat then
    if 10 < (r.takeWhile dig).length + 1 then none
    else if ((r.drop (r.takeWhile dig).length).head?.map fun d => smallB d.toNat) = some true then none
    else some (105, numOf 0 (c :: r.takeWhile dig), (r.takeWhile dig).length)
  else if c = 45 ∧ (r.head?.map dig) = some true then
    if 10 < (r.takeWhile dig).length then none
    else if ((r.drop (r.takeWhile dig).length).head?.map fun d => smallB d.toNat) = some true then none
    else some (105, - numOf 0 (r.takeWhile dig), (r.takeWhile dig).length)
  else if c = 44 ∨ c = 40 ∨ c = 41 ∨ c = 58 ∨ c = 46 then some (c.toNat, 0, 0)
  else none
/-- the tokens of a line, of fewer than n bytes -/
def toksN : Nat → List UInt8 → Bool → Option (List Tok)
  | 0, _, _ => some []
  | n + 1, l, b => match l with
    | [] => some []
    | c :: r =>
      if c = 35 then some []
      else if c = 32 ∨ c = 9 then toksN n r true
      else match tok1 c r with
        | none => none
        | some (k, v, m) => (toksN n (r.drop m) false).map (⟨k, c :: r.take m, v, b⟩ :: ·)
/-- the tokens of a line -/
def toks (l : List UInt8) (b : Bool) : Option (List Tok) := toksN (l.length + 1) l b
theorem toksN_more : ∀ (n m : Nat) (l : List UInt8) (b : Bool), l.length < n → l.length < m → toksN n l b = toksN m l b
  | 0, _, _, _, h, _ => by omega
  | _ + 1, 0, _, _, _, h => by omega
  | n + 1, m + 1, [], b, _, _ => rfl
  | n + 1, m + 1, c :: r, b, h, h2 => by
    have hn : r.length < n := by simpa using h
    have hm : r.length < m := by simpa using h2
    simp only [toksN]
    rw [toksN_more n m r true hn hm]
    split
    · rfl
    · split
      · rfl
      · split
        · rfl
        · rw [toksN_more n m _ false (by simp; omega) (by simp; omega)]
theorem toksN_at (n : Nat) (c : UInt8) (r : List UInt8) (b : Bool) : toksN (n + 1) (c :: r) b =
    if c = 35 then some []
    else if c = 32 ∨ c = 9 then toksN n r true
    else match tok1 c r with
      | none => none
      | some (k, v, m) => (toksN n (r.drop m) false).map (⟨k, c :: r.take m, v, b⟩ :: ·) := rfl
theorem toks_at (c : UInt8) (r : List UInt8) (b : Bool) : toks (c :: r) b =
    if c = 35 then some []
    else if c = 32 ∨ c = 9 then toks r true
    else match tok1 c r with
      | none => none
      | some (k, v, m) => (toks (r.drop m) false).map (⟨k, c :: r.take m, v, b⟩ :: ·) := by
  unfold toks
  rw [toksN_at]
  split
  · rfl
  · split
    · rfl
    · split
      · rfl
      · rw [toksN_more (c :: r).length _ _ false (by simp; omega) (Nat.lt_succ_self _)]
end Pn
namespace Pn
open Go
/-- byte q -/
def B (s : ByteArray) (q : Nat) : UInt8 := s.data.toList.getD q 0
theorem B_eq (s : ByteArray) (q : Nat) (h : q < s.size) : s[q] = B s q := by
  unfold B
  rw [List.getD_eq_getElem?_getD, List.getElem?_eq_getElem (by simpa using h)]
  rfl
theorem drop_cons (s : ByteArray) (j : Nat) (h : j < s.size) : s.data.toList.drop j = B s j :: s.data.toList.drop (j + 1) := by
  rw [← B_eq s j h, List.drop_eq_getElem_cons (by simpa using h)]
  rfl
theorem toks_nil (b : Bool) : toks [] b = some [] := by unfold toks; rfl
theorem toks_hash (c : UInt8) (r : List UInt8) (b : Bool) (h : c = 35) : toks (c :: r) b = some [] := by rw [toks_at]; simp [h]
theorem toks_blank (c : UInt8) (r : List UInt8) (b : Bool) (h : c = 32 ∨ c = 9) : toks (c :: r) b = toks r true := by
  rw [toks_at]
  have : c ≠ 35 := by rcases h with h | h <;> (rw [h]; decide)
  simp [h, this]
theorem toks_some (c : UInt8) (r : List UInt8) (b : Bool) (h : c ≠ 35) (h' : ¬ (c = 32 ∨ c = 9)) (k v : Int) (n : Nat) (ht : tok1 c r = some (k, v, n)) :
    toks (c :: r) b = (toks (r.drop n) false).map (⟨k, c :: r.take n, v, b⟩ :: ·) := by
  rw [toks_at]
  rw [if_neg h, if_neg h', ht]
theorem toks_none (c : UInt8) (r : List UInt8) (b : Bool) (h : c ≠ 35) (h' : ¬ (c = 32 ∨ c = 9)) (ht : tok1 c r = none) : toks (c :: r) b = none := by
  rw [toks_at]
  rw [if_neg h, if_neg h', ht]
theorem u8_ne {c : UInt8} {n : Nat} (hn : n < 256) (h : ((c.toNat : Int) != (n : Int)) = true) : c ≠ UInt8.ofNat n := by
  rintro rfl
  simp [Nat.mod_eq_of_lt hn] at h
theorem u8_eq {c : UInt8} {n : Nat} (h : (c.toNat : Int) = (n : Int)) : c = UInt8.ofNat n := by
  have : c.toNat = n := by omega
  rw [← this]; simp
theorem u8_ne' {c : UInt8} {n : Nat} (hn : n < 256) (h : ((c.toNat : Int) == (n : Int)) = false) : c ≠ UInt8.ofNat n := by
  rintro rfl
  simp [Nat.mod_eq_of_lt hn] at h
/-- the length of the first run -/
theorem run_len (p : UInt8 → Bool) (l : List UInt8) (m : Nat) (hm : m ≤ l.length) (h : ∀ q, q < m → p (l.getD q 0) = true) (he : m = l.length ∨ p (l.getD m 0) = false) : (l.takeWhile p).length = m := by
  induction l generalizing m with
  | nil => simp at hm; simp [hm]
  | cons c l ih =>
    cases m with
    | zero =>
      rcases he with he | he
      · simp at he
      · simp at he; simp [he]
    | succ m =>
      have h0 := h 0 (by omega)
      simp at h0
      rw [List.takeWhile_cons, if_pos h0, List.length_cons, ih m (by simpa using hm) (fun q hq => by have := h (q + 1) (by omega); simpa using this) (by rcases he with he | he; (left; simpa using he); (right; simpa using he))]
theorem run_len_at (p : UInt8 → Bool) (s : ByteArray) (i n : Nat) (hn : 1 ≤ n) (hi : i + n ≤ s.size) (h : ∀ q, 1 ≤ q → q < n → p (B s (i + q)) = true) (he : i + n = s.size ∨ p (B s (i + n)) = false) :
    ((s.data.toList.drop (i + 1)).takeWhile p).length = n - 1 := by
  have hl : s.data.toList.length = s.size := by simp
  apply run_len
  · rw [List.length_drop, hl]; omega
  · intro q hq
    have := h (q + 1) (by omega) (by omega)
    unfold B at this
    rw [List.getD_eq_getElem?_getD, List.getElem?_drop]
    rw [List.getD_eq_getElem?_getD] at this
    have e : i + 1 + q = i + (q + 1) := by omega
    rw [e]; exact this
  · rcases he with he | he
    · left; rw [List.length_drop, hl]; omega
    · right
      unfold B at he
      rw [List.getD_eq_getElem?_getD, List.getElem?_drop]
      rw [List.getD_eq_getElem?_getD] at he
      have e : i + 1 + (n - 1) = i + n := by omega
      rw [e]; exact he
theorem extract_list (s : ByteArray) (i n : Nat) (hn : 1 ≤ n) (h : i + n ≤ s.size) : (s.extract i (i + n)).data.toList = B s i :: (s.data.toList.drop (i + 1)).take (n - 1) := by
  have e : (s.extract i (i + n)).data.toList = (s.data.toList.drop i).take n := by
    simp [ByteArray.data_extract, Array.toList_extract, List.extract_eq_take_drop]
  rw [e, drop_cons s i (by omega)]
  obtain ⟨m, rfl⟩ : ∃ m, n = m + 1 := ⟨n - 1, by omega⟩
  simp
end Pn

namespace Pn
open Go Go.RowKit
theorem tok1_sign (c : UInt8) (r : List UInt8) (h : c = 44 ∨ c = 40 ∨ c = 41 ∨ c = 58 ∨ c = 46) : tok1 c r = some ((c.toNat : Int), 0, 0) := by
  rcases h with rfl | rfl | rfl | rfl | rfl <;> simp [tok1, smallB, digitB]
theorem tok1_word (c : UInt8) (r : List UInt8) (h : smallB c.toNat = true) (n : Nat) (hn : (r.takeWhile alnum).length = n) : tok1 c r = some (119, 0, n) := by
  unfold tok1; rw [if_pos h, hn]
theorem tok1_bad (c : UInt8) (r : List UInt8) (h1 : smallB c.toNat = false) (h2 : digitB c.toNat = false) (h3 : ¬ (c = 45 ∧ (r.head?.map dig) = some true)) (h4 : ¬ (c = 44 ∨ c = 40 ∨ c = 41 ∨ c = 58 ∨ c = 46)) : tok1 c r = none := by
  unfold tok1; simp only [h1, h2, h3, h4, if_false, Bool.false_eq_true]
theorem tok1_dig_long (c : UInt8) (r : List UInt8) (h1 : smallB c.toNat = false) (h2 : digitB c.toNat = true) (n : Nat) (hn : (r.takeWhile dig).length = n) (h : 10 < n + 1) : tok1 c r = none := by
  unfold tok1; simp only [h1, h2, hn, if_false, if_true, Bool.false_eq_true]; rw [if_pos h]
theorem tok1_dig_letter (c : UInt8) (r : List UInt8) (h1 : smallB c.toNat = false) (h2 : digitB c.toNat = true) (n : Nat) (hn : (r.takeWhile dig).length = n) (h : ((r.drop n).head?.map fun d => smallB d.toNat) = some true) : tok1 c r = none := by
  unfold tok1; simp only [h1, h2, hn, if_false, if_true, Bool.false_eq_true]; rw [if_pos h]; split <;> rfl
theorem tok1_dig (c : UInt8) (r : List UInt8) (h1 : smallB c.toNat = false) (h2 : digitB c.toNat = true) (n : Nat) (hn : (r.takeWhile dig).length = n) (h10 : ¬ 10 < n + 1) (h : ((r.drop n).head?.map fun d => smallB d.toNat) ≠ some true) : tok1 c r = some (105, numOf 0 (c :: r.take n), n) := by
  unfold tok1; simp only [h1, h2, hn, if_false, if_true, Bool.false_eq_true]; rw [if_neg h10, if_neg h]
  have e : r.takeWhile dig = r.take n := by rw [← hn]; exact (List.prefix_iff_eq_take.1 (List.takeWhile_prefix _))
  rw [e]
theorem tok1_min_long (r : List UInt8) (h3 : (r.head?.map dig) = some true) (n : Nat) (hn : (r.takeWhile dig).length = n) (h : 10 < n) : tok1 45 r = none := by
  have a : smallB ((45 : UInt8).toNat : Int) = false := rfl
  have b : digitB ((45 : UInt8).toNat : Int) = false := rfl
  unfold tok1; simp only [a, b, hn, h3, if_false, if_true, Bool.false_eq_true, and_self]; rw [if_pos h]
theorem tok1_min_letter (r : List UInt8) (h3 : (r.head?.map dig) = some true) (n : Nat) (hn : (r.takeWhile dig).length = n) (h : ((r.drop n).head?.map fun d => smallB d.toNat) = some true) : tok1 45 r = none := by
  have a : smallB ((45 : UInt8).toNat : Int) = false := rfl
  have b : digitB ((45 : UInt8).toNat : Int) = false := rfl
  unfold tok1; simp only [a, b, hn, h3, if_false, if_true, Bool.false_eq_true, and_self]; rw [if_pos h]; split <;> rfl
theorem tok1_min (r : List UInt8) (h3 : (r.head?.map dig) = some true) (n : Nat) (hn : (r.takeWhile dig).length = n) (h10 : ¬ 10 < n) (h : ((r.drop n).head?.map fun d => smallB d.toNat) ≠ some true) : tok1 45 r = some (105, - numOf 0 (r.take n), n) := by
  have a : smallB ((45 : UInt8).toNat : Int) = false := rfl
  have b : digitB ((45 : UInt8).toNat : Int) = false := rfl
  unfold tok1; simp only [a, b, hn, h3, if_false, if_true, Bool.false_eq_true, and_self]; rw [if_neg h10, if_neg h]
  have e : r.takeWhile dig = r.take n := by rw [← hn]; exact (List.prefix_iff_eq_take.1 (List.takeWhile_prefix _))
  rw [e]
theorem head_at (s : ByteArray) (q : Nat) (h : q < s.size) : (s.data.toList.drop q).head? = some (B s q) := by rw [drop_cons s q h]; rfl
theorem head_end (s : ByteArray) (q : Nat) (h : s.size ≤ q) : (s.data.toList.drop q).head? = none := by
  have : s.data.toList.drop q = [] := by apply List.drop_eq_nil_of_le; simpa using h
  rw [this]; rfl
/-- the number that the bytes from f up to k make -/
def numAt (s : ByteArray) (f k : Nat) : Int := numOf 0 ((s.data.toList.drop f).take (k - f))
theorem numOf_snoc (a : Int) (l : List UInt8) (c : UInt8) : numOf a (l ++ [c]) = 10 * numOf a l + c.toNat - 48 := by
  induction l generalizing a with
  | nil => rfl
  | cons d l ih => simp only [List.cons_append, numOf, ih]
theorem numAt_self (s : ByteArray) (f : Nat) : numAt s f f = 0 := by simp [numAt, numOf]
theorem numAt_succ (s : ByteArray) (f k : Nat) (hf : f ≤ k) (hk : k < s.size) : numAt s f (k + 1) = 10 * numAt s f k + (B s k).toNat - 48 := by
  unfold numAt
  have hl : k - f < (s.data.toList.drop f).length := by simp; omega
  have e : k + 1 - f = (k - f) + 1 := by omega
  rw [e, List.take_succ_eq_append_getElem hl, numOf_snoc]
  have : (s.data.toList.drop f)[k - f] = B s k := by
    rw [List.getElem_drop, ← B_eq s k hk]
    have : f + (k - f) = k := by omega
    simp only [this]; rfl
  rw [this]
theorem digit_bd {c : Int} (h : digitB c = true) : 48 ≤ c ∧ c ≤ 57 := by simpa [digitB] using h
theorem numAt_bd (s : ByteArray) (f k : Nat) (hf : f ≤ k) (hk : k ≤ s.size) (hd : ∀ q, f ≤ q → q < k → digitB (B s q).toNat = true) : 0 ≤ numAt s f k ∧ numAt s f k < 10 ^ (k - f) := by
  induction k with
  | zero => have : f = 0 := by omega
            subst this; rw [numAt_self]; simp
  | succ k ih =>
    by_cases e : f = k + 1
    · subst e; rw [numAt_self]; simp
    · have h1 := ih (by omega) (by omega) (fun q a b => hd q a (by omega))
      have h2 := digit_bd (hd k (by omega) (by omega))
      rw [numAt_succ s f k (by omega) (by omega)]
      have e2 : k + 1 - f = (k - f) + 1 := by omega
      rw [e2, Int.pow_succ]
      omega
theorem numAt_bd10 (s : ByteArray) (f k : Nat) (hf : f ≤ k) (hk : k ≤ s.size) (h10 : k - f ≤ 10) (hd : ∀ q, f ≤ q → q < k → digitB (B s q).toNat = true) : 0 ≤ numAt s f k ∧ numAt s f k ≤ 10000000000 := by
  have h := numAt_bd s f k hf hk hd
  have hp : (10 : Int) ^ (k - f) ≤ 10 ^ 10 := by
    have := Nat.pow_le_pow_right (n := 10) (by omega) h10
    exact_mod_cast this
  have e : (10 : Int) ^ 10 = 10000000000 := by decide
  omega
theorem numAt_first (s : ByteArray) (f n : Nat) (hf : f < s.size) (hn : 1 ≤ n) : numAt s f (f + n) = numOf 0 (B s f :: (s.data.toList.drop (f + 1)).take (n - 1)) := by
  unfold numAt
  obtain ⟨m, rfl⟩ : ∃ m, n = m + 1 := ⟨n - 1, by omega⟩
  rw [drop_cons s f hf]
  have e : f + (m + 1) - f = m + 1 := by omega
  rw [e]; simp
theorem chars (c : UInt8) : c = 35 ∨ c = 32 ∨ c = 9 ∨ c = 44 ∨ c = 40 ∨ c = 41 ∨ c = 58 ∨ c = 46 ∨ c = 45 ∨
    (((c.toNat : Int) != 35) = true ∧ ((c.toNat : Int) == 32) = false ∧ ((c.toNat : Int) == 9) = false ∧ ((c.toNat : Int) == 44) = false ∧ ((c.toNat : Int) == 40) = false ∧ ((c.toNat : Int) == 41) = false ∧
      ((c.toNat : Int) == 58) = false ∧ ((c.toNat : Int) == 46) = false ∧ ((c.toNat : Int) == 45) = false ∧ Hid (c ≠ 35) ∧ Hid (¬ (c = 32 ∨ c = 9)) ∧ Hid (¬ (c = 44 ∨ c = 40 ∨ c = 41 ∨ c = 58 ∨ c = 46)) ∧ Hid (c ≠ 45)) := by
  have key : ∀ n : Nat, n < 256 → c ≠ UInt8.ofNat n → (c.toNat : Int) ≠ (n : Int) := fun n hn h he => h (u8_eq he)
  by_cases h1 : c = 35; · exact .inl h1
  by_cases h2 : c = 32; · exact .inr (.inl h2)
  by_cases h3 : c = 9; · exact .inr (.inr (.inl h3))
  by_cases h4 : c = 44; · exact .inr (.inr (.inr (.inl h4)))
  by_cases h5 : c = 40; · exact .inr (.inr (.inr (.inr (.inl h5))))
  by_cases h6 : c = 41; · exact .inr (.inr (.inr (.inr (.inr (.inl h6)))))
  by_cases h7 : c = 58; · exact .inr (.inr (.inr (.inr (.inr (.inr (.inl h7))))))
  by_cases h8 : c = 46; · exact .inr (.inr (.inr (.inr (.inr (.inr (.inr (.inl h8)))))))
  by_cases h9 : c = 45; · exact .inr (.inr (.inr (.inr (.inr (.inr (.inr (.inr (.inl h9))))))))
  refine .inr (.inr (.inr (.inr (.inr (.inr (.inr (.inr (.inr ?_))))))))
  refine ⟨bne_iff_ne.2 (key 35 (by omega) h1), beq_eq_false_iff_ne.2 (key 32 (by omega) h2), beq_eq_false_iff_ne.2 (key 9 (by omega) h3), beq_eq_false_iff_ne.2 (key 44 (by omega) h4), beq_eq_false_iff_ne.2 (key 40 (by omega) h5),
    beq_eq_false_iff_ne.2 (key 41 (by omega) h6), beq_eq_false_iff_ne.2 (key 58 (by omega) h7), beq_eq_false_iff_ne.2 (key 46 (by omega) h8), beq_eq_false_iff_ne.2 (key 45 (by omega) h9), h1, ?_, ?_, h9⟩
  · rintro (h | h); exact h2 h; exact h3 h
  · rintro (h | h | h | h | h); exact h4 h; exact h5 h; exact h6 h; exact h7 h; exact h8 h
theorem run_more {p : UInt8 → Bool} {s : ByteArray} {i m : Nat} (h : ∀ q, 1 ≤ q → q < m → p (B s (i + q)) = true) (hm : p (B s (i + m)) = true) : ∀ q, 1 ≤ q → q < m + 1 → p (B s (i + q)) = true := fun q h1 h2 => by
  by_cases e : q = m
  · rw [e]; exact hm
  · exact h q h1 (by omega)
theorem let_at (s : ByteArray) (j m : Nat) (hm : 1 ≤ m) (h : j + m < s.size) (hl : smallB (B s (j + m)).toNat = true) :
    ((((s.data.toList.drop (j + 1)).drop (m - 1)).head?.map fun d => smallB d.toNat) = some true) := by
  have e : j + 1 + (m - 1) = j + m := by omega
  rw [List.drop_drop, e, head_at s (j + m) h]; simp [hl]
theorem let_not (s : ByteArray) (j m : Nat) (hm : 1 ≤ m) (h : j + m < s.size) (hl : smallB (B s (j + m)).toNat = false) :
    ((((s.data.toList.drop (j + 1)).drop (m - 1)).head?.map fun d => smallB d.toNat) ≠ some true) := by
  have e : j + 1 + (m - 1) = j + m := by omega
  rw [List.drop_drop, e, head_at s (j + m) h]; simp [hl]
theorem let_end (s : ByteArray) (j m : Nat) (hm : 1 ≤ m) (h : s.size ≤ j + m) :
    ((((s.data.toList.drop (j + 1)).drop (m - 1)).head?.map fun d => smallB d.toNat) ≠ some true) := by
  have e : j + 1 + (m - 1) = j + m := by omega
  rw [List.drop_drop, e, head_end s (j + m) h]; simp
theorem head_dig (s : ByteArray) (j : Nat) (h : j + 1 < s.size) (hd : digitB (B s (j + 1)).toNat = true) : ((s.data.toList.drop (j + 1)).head?.map dig) = some true := by
  rw [head_at s (j + 1) h]; simp [dig, hd]
theorem digs_min {s : ByteArray} {j m : Nat} (h : ∀ q, 1 ≤ q → q < m → dig (B s (j + q)) = true) : ∀ q, j + 1 ≤ q → q < j + m → digitB (B s q).toNat = true := fun q h1 h2 => by
  have := h (q - j) (by omega) (by omega)
  have e : j + (q - j) = q := by omega
  rw [e] at this; exact this
theorem digs_all {s : ByteArray} {j m : Nat} (h0 : digitB (B s j).toNat = true) (h : ∀ q, 1 ≤ q → q < m → dig (B s (j + q)) = true) : ∀ q, j ≤ q → q < j + m → digitB (B s q).toNat = true := fun q h1 h2 => by
  by_cases e : q = j
  · rw [e]; exact h0
  · exact digs_min h q (by omega) h2
theorem numAt_min (s : ByteArray) (j m : Nat) (hm : 1 ≤ m) : numAt s (j + 1) (j + m) = numOf 0 ((s.data.toList.drop (j + 1)).take (m - 1)) := by
  unfold numAt
  have e : j + m - (j + 1) = m - 1 := by omega
  rw [e]
end Pn
namespace Pn
open Go Go.RowKit
/-- all bytes from 1 on are digits -/
def digs1 (S : ByteArray) (k : Nat) : Bool := decide (∀ q, q < k → 1 ≤ q → digitB (B S q).toNat = true)
/-- the register that a token is, or -1 -/
def regV (kd : Int) (S : ByteArray) : Int :=
  if kd = 119 ∧ 2 ≤ S.size ∧ S.size ≤ 3 ∧ (B S 0).toNat = 120 ∧ digs1 S S.size = true ∧ numAt S 1 S.size ≤ 31 ∧ ¬ (S.size = 3 ∧ (B S 1).toNat = 48) then numAt S 1 S.size else -1
theorem regV_no {kd : Int} {S : ByteArray} (h : ¬ (kd = 119 ∧ 2 ≤ S.size ∧ S.size ≤ 3 ∧ (B S 0).toNat = 120 ∧ digs1 S S.size = true ∧ numAt S 1 S.size ≤ 31 ∧ ¬ (S.size = 3 ∧ (B S 1).toNat = 48))) : regV kd S = -1 := by
  unfold regV; rw [if_neg h]
theorem digs1_one (S : ByteArray) : digs1 S 1 = true := by
  unfold digs1
  rw [decide_eq_true_eq]
  intro q h1 h2; omega
theorem digs1_succ {S : ByteArray} {k : Nat} (h : digs1 S k = true) (hd : digitB (B S k).toNat = true) : digs1 S (k + 1) = true := by
  unfold digs1 at *
  simp only [decide_eq_true_eq] at *
  intro q h1 h2
  by_cases e : q = k
  · rw [e]; exact hd
  · exact h q (by omega) h2
theorem digs1_no {S : ByteArray} {k n : Nat} (hk : 1 ≤ k) (hn : k < n) (hd : digitB (B S k).toNat = false) : digs1 S n ≠ true := by
  unfold digs1
  rw [ne_eq, decide_eq_true_eq]
  intro h
  have := h k hn hk
  rw [hd] at this; cases this
theorem digs1_all {S : ByteArray} {k : Nat} (h : digs1 S k = true) : ∀ q, 1 ≤ q → q < k → digitB (B S q).toNat = true := by
  unfold digs1 at h
  simp only [decide_eq_true_eq] at h
  exact fun q a b => h q b a
theorem regV_bd (kd : Int) (S : ByteArray) : -1 ≤ regV kd S ∧ regV kd S ≤ 31 := by
  unfold regV
  split
  · rename_i h
    have := numAt_bd S 1 S.size (by omega) (by omega) (digs1_all h.2.2.2.2.1)
    omega
  · omega
end Pn
namespace Pn
open Go Go.RowKit
def Tok.S (t : Tok) : ByteArray := ⟨t.text.toArray⟩
/-- operands by their form: registers, number, name -/
def opnd : List Tok → List UInt8 → List Int → Int → ByteArray → Option (List Int × Int × ByteArray)
  | [], [], rs, n, nm => some (rs, n, nm)
  | t :: l, f :: F, rs, n, nm =>
    if f = 114 then (if regV t.kind t.S < 0 then none else opnd l F (rs ++ [regV t.kind t.S]) n nm)
    else if (f = 105 ∨ f = 116) ∧ t.kind = 105 then opnd l F rs t.num nm
    else if f = 116 ∧ t.kind = 119 ∧ t.S.size ≤ 8 then opnd l F rs n t.S
    else if (f.toNat : Int) = t.kind ∧ f ≠ 105 then opnd l F rs n nm
    else none
  | _, _, _, _, _ => none
theorem opnd_len : ∀ (l : List Tok) (F : List UInt8) (rs : List Int) (n : Int) (nm : ByteArray), l.length ≠ F.length → opnd l F rs n nm = none
  | [], [], _, _, _, h => by simp at h
  | [], f :: F, _, _, _, _ => by simp [opnd]
  | t :: l, [], _, _, _, _ => by simp [opnd]
  | t :: l, f :: F, rs, n, nm, h => by
    have h' : l.length ≠ F.length := by simpa using h
    simp only [opnd]
    repeat' split
    all_goals first | rfl | exact opnd_len l F _ _ _ h'
theorem f_is {f : UInt8} {n : Nat} (h : ((f.toNat : Int) == (n : Int)) = true) : f = UInt8.ofNat n := u8_eq (by simpa using h)
theorem opnd_nil (rs : List Int) (n : Int) (nm : ByteArray) : opnd [] [] rs n nm = some (rs, n, nm) := by simp [opnd]
theorem opnd_r {f : UInt8} (hf : f = 114) (t : Tok) (l : List Tok) (F : List UInt8) (rs : List Int) (n : Int) (nm : ByteArray) (h : ¬ regV t.kind t.S < 0) : opnd (t :: l) (f :: F) rs n nm = opnd l F (rs ++ [regV t.kind t.S]) n nm := by
  subst hf; simp only [opnd, if_true]; rw [if_neg h]
theorem opnd_r_no {f : UInt8} (hf : f = 114) (t : Tok) (l : List Tok) (F : List UInt8) (rs : List Int) (n : Int) (nm : ByteArray) (h : regV t.kind t.S < 0) : opnd (t :: l) (f :: F) rs n nm = none := by
  subst hf; simp only [opnd, if_true]; rw [if_pos h]
theorem opnd_i {f : UInt8} (hf : f ≠ 114) (hf2 : f = 105 ∨ f = 116) (t : Tok) (l : List Tok) (F : List UInt8) (rs : List Int) (n : Int) (nm : ByteArray) (h : t.kind = 105) : opnd (t :: l) (f :: F) rs n nm = opnd l F rs t.num nm := by
  simp only [opnd]; rw [if_neg hf, if_pos ⟨hf2, h⟩]
theorem opnd_t {f : UInt8} (hf : f = 116) (t : Tok) (l : List Tok) (F : List UInt8) (rs : List Int) (n : Int) (nm : ByteArray) (h : t.kind = 119) (h8 : t.S.size ≤ 8) : opnd (t :: l) (f :: F) rs n nm = opnd l F rs n t.S := by
  subst hf; simp only [opnd]; rw [if_neg (by decide), if_neg (by rw [h]; omega), if_pos ⟨trivial, h, h8⟩]
theorem opnd_s {f : UInt8} (hf : f ≠ 114) (t : Tok) (l : List Tok) (F : List UInt8) (rs : List Int) (n : Int) (nm : ByteArray) (h1 : ¬ ((f = 105 ∨ f = 116) ∧ t.kind = 105)) (h2 : ¬ (f = 116 ∧ t.kind = 119 ∧ t.S.size ≤ 8)) (h3 : (f.toNat : Int) = t.kind) (h4 : f ≠ 105) : opnd (t :: l) (f :: F) rs n nm = opnd l F rs n nm := by
  simp only [opnd]; rw [if_neg hf, if_neg h1, if_neg h2, if_pos ⟨h3, h4⟩]
theorem opnd_no {f : UInt8} (hf : f ≠ 114) (t : Tok) (l : List Tok) (F : List UInt8) (rs : List Int) (n : Int) (nm : ByteArray) (h1 : ¬ ((f = 105 ∨ f = 116) ∧ t.kind = 105)) (h2 : ¬ (f = 116 ∧ t.kind = 119 ∧ t.S.size ≤ 8)) (h3 : ¬ ((f.toNat : Int) = t.kind ∧ f ≠ 105)) : opnd (t :: l) (f :: F) rs n nm = none := by
  simp only [opnd]; rw [if_neg hf, if_neg h1, if_neg h2, if_neg h3]
end Pn
namespace Pn
open Go Go.RowKit
def bytes (l : List UInt8) : ByteArray := ⟨l.toArray⟩
/-- a kind's form -/
def formOf (kd : Nat) : List UInt8 :=
  if kd = 82 then [114, 44, 114, 44, 114] else if kd = 73 ∨ kd = 72 ∨ kd = 87 then [114, 44, 114, 44, 105] else if kd = 76 ∨ kd = 83 then [114, 44, 105, 40, 114, 41]
  else if kd = 66 then [114, 44, 114, 44, 116] else if kd = 85 then [114, 44, 105] else if kd = 74 then [114, 44, 116] else []
/-- the instruction of op k + 1 by its registers and number -/
def insOf (k : Nat) (rs : List Int) (n : Int) : Ins :=
  if (row k).kind = 82 then ⟨k + 1, rs.getD 0 0, rs.getD 1 0, rs.getD 2 0, n⟩
  else if (row k).kind = 73 ∨ (row k).kind = 72 ∨ (row k).kind = 87 ∨ (row k).kind = 76 then ⟨k + 1, rs.getD 0 0, rs.getD 1 0, 0, n⟩
  else if (row k).kind = 83 then ⟨k + 1, 0, rs.getD 1 0, rs.getD 0 0, n⟩
  else if (row k).kind = 66 then ⟨k + 1, 0, rs.getD 0 0, rs.getD 1 0, n⟩
  else if (row k).kind = 85 ∨ (row k).kind = 74 then ⟨k + 1, rs.getD 0 0, 0, 0, n⟩
  else ⟨k + 1, 0, 0, 0, n⟩
/-- is token t the name of op k + 1? -/
def named (t : Tok) (k : Nat) : Bool := (t.kind == 119) && (t.text == (row k).name)
/-- an instruction by its name: it, its target, the error -/
def plain (t : Tok) (l : List Tok) (targets : Bool) : Ins × ByteArray × Int :=
  match (List.range 64).find? (named t) with
  | none => (⟨0, 0, 0, 0, 0⟩, ⟨#[]⟩, 4)
  | some k =>
    match opnd l (formOf (row k).kind) [] 0 ⟨#[]⟩ with
    | none => (⟨0, 0, 0, 0, 0⟩, ⟨#[]⟩, 4)
    | some (rs, n, nm) =>
      if nm.data.toList ≠ [] ∧ targets = false then (⟨0, 0, 0, 0, 0⟩, ⟨#[]⟩, 4)
      else if right (insOf k rs n) then (insOf k rs n, nm, 0) else (insOf k rs n, nm, 5)
theorem opnd_regs : ∀ (l : List Tok) (F : List UInt8) (rs : List Int) (n : Int) (nm : ByteArray) (rs' : List Int) (n' : Int) (nm' : ByteArray), opnd l F rs n nm = some (rs', n', nm') → rs'.length = rs.length + F.count 114
  | [], [], rs, n, nm, rs', n', nm', h => by simp [opnd] at h; simp [h.1]
  | [], f :: F, _, _, _, _, _, _, h => by simp [opnd] at h
  | t :: l, [], _, _, _, _, _, _, h => by simp [opnd] at h
  | t :: l, f :: F, rs, n, nm, rs', n', nm', h => by
    simp only [opnd] at h
    split at h
    · rename_i hf
      split at h
      · cases h
      · have := opnd_regs l F _ _ _ _ _ _ h
        simp [hf] at this ⊢; omega
    · rename_i hf
      have hc : (f :: F).count 114 = F.count 114 := by rw [List.count_cons]; simp [hf]
      rw [hc]
      repeat' split at h
      all_goals first | exact opnd_regs l F _ _ _ _ _ _ h | cases h
theorem named_kind {t : Tok} {k : Nat} (h : (t.kind != 119) = true) : named t k = false := by
  have : (t.kind == 119) = false := by simpa using h
  simp [named, this]
theorem S_list (t : Tok) : t.S.toList = t.text := by simp [Tok.S]
theorem named_not {t : Tok} {k : Nat} (h : (t.S.toList == (row k).name) = false) : named t k = false := by
  rw [S_list] at h
  simp [named, h]
theorem named_yes {t : Tok} {k : Nat} (h : (t.kind != 119) = false) (h2 : (t.S.toList == (row k).name) = true) : named t k = true := by
  rw [S_list] at h2
  have : (t.kind == 119) = true := by simpa using h
  simp only [named, this, h2, Bool.and_self]
theorem no_more {p : Nat → Bool} {k : Nat} (h : ∀ j, j < k → p j = false) (hk : p k = false) : ∀ j, j < k + 1 → p j = false := fun j hj => by
  by_cases e : j = k
  · rw [e]; exact hk
  · exact h j (by omega)
theorem plain_none {t : Tok} {l : List Tok} {k : Nat} (h : (List.range 64).find? (named t) = some k) (ho : opnd l (formOf (row k).kind) [] 0 ⟨#[]⟩ = none) (tg : Bool) : plain t l tg = (⟨0, 0, 0, 0, 0⟩, ⟨#[]⟩, 4) := by
  simp only [plain, h, ho]
theorem plain_noname {t : Tok} (h : (List.range 64).find? (named t) = none) (l : List Tok) (tg : Bool) : plain t l tg = (⟨0, 0, 0, 0, 0⟩, ⟨#[]⟩, 4) := by
  simp only [plain, h]
theorem plain_target {t : Tok} {l : List Tok} {k : Nat} {rs : List Int} {n : Int} {nm : ByteArray} (h : (List.range 64).find? (named t) = some k) (ho : opnd l (formOf (row k).kind) [] 0 ⟨#[]⟩ = some (rs, n, nm)) (h1 : nm.toList.isEmpty = false) : plain t l false = (⟨0, 0, 0, 0, 0⟩, ⟨#[]⟩, 4) := by
  rw [ByteArray.toList_eq] at h1
  have : nm.data.toList ≠ [] := by intro e; rw [e] at h1; cases h1
  simp only [plain, h, ho]; rw [if_pos ⟨this, trivial⟩]
theorem plain_some {t : Tok} {l : List Tok} {k : Nat} {rs : List Int} {n : Int} {nm : ByteArray} {tg : Bool} (h : (List.range 64).find? (named t) = some k) (ho : opnd l (formOf (row k).kind) [] 0 ⟨#[]⟩ = some (rs, n, nm)) (h1 : nm.toList.isEmpty = true ∨ tg = true) :
    plain t l tg = (insOf k rs n, nm, if right (insOf k rs n) then 0 else 5) := by
  rw [ByteArray.toList_eq] at h1
  have : ¬ (nm.data.toList ≠ [] ∧ tg = false) := by
    rintro ⟨a, b⟩
    rcases h1 with h1 | h1
    · exact a (by simpa using h1)
    · rw [h1] at b; cases b
  simp only [plain, h, ho]; rw [if_neg this]; split <;> rfl
theorem insOf_R (k : Nat) (rs : List Int) (n : Int) (h : (row k).kind = 82) : insOf k rs n = ⟨k + 1, rs.getD 0 0, rs.getD 1 0, rs.getD 2 0, n⟩ := by
  unfold insOf; rw [if_pos (by omega)]
theorem insOf_I (k : Nat) (rs : List Int) (n : Int) (h : (row k).kind = 73 ∨ (row k).kind = 72 ∨ (row k).kind = 87 ∨ (row k).kind = 76) : insOf k rs n = ⟨k + 1, rs.getD 0 0, rs.getD 1 0, 0, n⟩ := by
  unfold insOf; rw [if_neg (by omega), if_pos (by omega)]
theorem insOf_S (k : Nat) (rs : List Int) (n : Int) (h : (row k).kind = 83) : insOf k rs n = ⟨k + 1, 0, rs.getD 1 0, rs.getD 0 0, n⟩ := by
  unfold insOf; rw [if_neg (by omega), if_neg (by omega), if_pos (by omega)]
theorem insOf_B (k : Nat) (rs : List Int) (n : Int) (h : (row k).kind = 66) : insOf k rs n = ⟨k + 1, 0, rs.getD 0 0, rs.getD 1 0, n⟩ := by
  unfold insOf; rw [if_neg (by omega), if_neg (by omega), if_neg (by omega), if_pos (by omega)]
theorem insOf_U (k : Nat) (rs : List Int) (n : Int) (h : (row k).kind = 85 ∨ (row k).kind = 74) : insOf k rs n = ⟨k + 1, rs.getD 0 0, 0, 0, n⟩ := by
  unfold insOf; rw [if_neg (by omega), if_neg (by omega), if_neg (by omega), if_neg (by omega), if_pos (by omega)]
theorem insOf_N (k : Nat) (rs : List Int) (n : Int) (h : (row k).kind = 78) : insOf k rs n = ⟨k + 1, 0, 0, 0, n⟩ := by
  unfold insOf; rw [if_neg (by omega), if_neg (by omega), if_neg (by omega), if_neg (by omega), if_neg (by omega)]
end Pn
namespace Pn
open Go Go.RowKit
/-- how many of the first k bytes are c -/
def cnt (s : ByteArray) (c : Int) : Nat → Int
  | 0 => 0
  | k + 1 => cnt s c k + if ((B s k).toNat : Int) = c then 1 else 0
theorem cnt_bd (s : ByteArray) (c : Int) : ∀ k, 0 ≤ cnt s c k ∧ cnt s c k ≤ k
  | 0 => by simp [cnt]
  | k + 1 => by have := cnt_bd s c k; simp only [cnt]; split <;> omega
theorem cnt_yes {s : ByteArray} {c : Int} {k : Nat} (h : (((B s k).toNat : Int) == c) = true) : cnt s c (k + 1) = cnt s c k + 1 := by
  simp only [cnt]; rw [if_pos (by simpa using h)]
theorem cnt_no {s : ByteArray} {c : Int} {k : Nat} (h : (((B s k).toNat : Int) == c) = false) : cnt s c (k + 1) = cnt s c k := by
  simp only [cnt]; rw [if_neg (by simpa using h)]; omega
end Pn
namespace Pn
open Go Go.RowKit
theorem toks_len : ∀ (n : Nat) (l : List UInt8) (b : Bool) (A : List Tok), l.length ≤ n → toks l b = some A → A.length ≤ l.length
  | n, [], b, A, _, h => by rw [toks_nil] at h; cases h; simp
  | 0, c :: r, b, A, hn, _ => by simp at hn
  | n + 1, c :: r, b, A, hn, h => by
    have hr : r.length ≤ n := by simpa using hn
    rw [toks_at] at h
    split at h
    · cases h; simp
    · split at h
      · have := toks_len n r true A hr h
        simp; omega
      · split at h
        · cases h
        · rename_i k v m _
          cases ht : toks (r.drop m) false with
          | none => rw [ht] at h; cases h
          | some A' =>
            rw [ht] at h
            have := toks_len n (r.drop m) false A' (by simp; omega) ht
            simp only [Option.map_some, Option.some.injEq] at h
            rw [← h]
            simp at this ⊢; omega
/-- Read's answer -/
def rd (s : ByteArray) : Ins × Int :=
  if 2000 < s.size then (⟨0, 0, 0, 0, 0⟩, 4)
  else match toks s.data.toList false with
    | none => (⟨0, 0, 0, 0, 0⟩, 4)
    | some [] => (⟨0, 0, 0, 0, 0⟩, 4)
    | some (t :: l) =>
      if 0 < cnt s 10 s.size then (⟨0, 0, 0, 0, 0⟩, 4)
      else if (plain t l false).2.2 = 0 then ((plain t l false).1, 0) else (⟨0, 0, 0, 0, 0⟩, (plain t l false).2.2)
theorem rd_long {s : ByteArray} (h : 2000 < s.size) : rd s = (⟨0, 0, 0, 0, 0⟩, 4) := by unfold rd; rw [if_pos h]
theorem rd_none {s : ByteArray} (h : ¬ 2000 < s.size) (ht : toks s.data.toList false = none) : rd s = (⟨0, 0, 0, 0, 0⟩, 4) := by unfold rd; rw [if_neg h, ht]
theorem rd_nil {s : ByteArray} (h : ¬ 2000 < s.size) (ht : toks s.data.toList false = some []) : rd s = (⟨0, 0, 0, 0, 0⟩, 4) := by unfold rd; rw [if_neg h, ht]
theorem rd_lf {s : ByteArray} {t : Tok} {l : List Tok} (h : ¬ 2000 < s.size) (ht : toks s.data.toList false = some (t :: l)) (hc : 0 < cnt s 10 s.size) : rd s = (⟨0, 0, 0, 0, 0⟩, 4) := by
  unfold rd; rw [if_neg h, ht]; simp only; rw [if_pos hc]
theorem rd_ok {s : ByteArray} {t : Tok} {l : List Tok} (h : ¬ 2000 < s.size) (ht : toks s.data.toList false = some (t :: l)) (hc : ¬ 0 < cnt s 10 s.size) (hp : (plain t l false).2.2 = 0) : rd s = ((plain t l false).1, 0) := by
  unfold rd; rw [if_neg h, ht]; simp only; rw [if_neg hc, if_pos hp]
theorem rd_bad {s : ByteArray} {t : Tok} {l : List Tok} (h : ¬ 2000 < s.size) (ht : toks s.data.toList false = some (t :: l)) (hc : ¬ 0 < cnt s 10 s.size) (hp : (plain t l false).2.2 ≠ 0) : rd s = (⟨0, 0, 0, 0, 0⟩, (plain t l false).2.2) := by
  unfold rd; rw [if_neg h, ht]; simp only; rw [if_neg hc, if_neg hp]
end Pn

namespace Pn
open Go
/-- the shape of a kind -/
def shp (kd : Nat) : List UInt8 :=
  if kd = 82 then [100, 44, 115, 44, 116] else if kd = 73 ∨ kd = 72 ∨ kd = 87 then [100, 44, 115, 44, 105] else if kd = 76 then [100, 44, 105, 40, 115, 41] else if kd = 83 then [116, 44, 105, 40, 115, 41]
  else if kd = 66 then [115, 44, 116, 44, 112] else if kd = 85 then [100, 44, 105] else if kd = 74 then [100, 44, 112] else []
/-- what stands for a letter of a shape -/
def partL (i : Ins) (r : UInt8) : List UInt8 :=
  if r = 100 then regL i.rd else if r = 115 then regL i.rs1 else if r = 116 then regL i.rs2 else if r = 105 ∨ r = 112 then Lib.itoa i.imm else if r = 44 then [44, 32] else [r]
def Lett (r : UInt8) : Prop := r = 100 ∨ r = 115 ∨ r = 116 ∨ r = 105 ∨ r = 112 ∨ r = 44 ∨ r = 40 ∨ r = 41
theorem shp_lett {kd : Nat} (h : kindsOk kd) : ∀ r ∈ shp kd, Lett r := by
  unfold Lett
  rcases h with rfl | rfl | rfl | rfl | rfl | rfl | rfl | rfl | rfl | rfl <;> decide
theorem shp_len (kd : Nat) : (shp kd).length ≤ 6 := by
  unfold shp
  repeat' split
  all_goals simp
theorem shp_behind {kd : Nat} (h : kindsOk kd) (i : Ins) : (if shp kd = [] then [] else 32 :: (shp kd).flatMap (partL i)) = behind kd (regL i.rd) (regL i.rs1) (regL i.rs2) (Lib.itoa i.imm) := by
  rcases h with rfl | rfl | rfl | rfl | rfl | rfl | rfl | rfl | rfl | rfl <;> simp [shp, behind, partL]
end Pn
namespace Pn
open Go
/-- does a piece of this kind go on with this rune? -/
def goes (k r : Int) : Bool := if k = 1 then (smallB r || digitB r || (r == 46)) else if k = 2 then digitB r else false
/-- what kind begins with this rune? -/
def beg (r : Int) : Option Int :=
  if smallB r || (r == 46) then some 1 else if digitB r || (r == 45) then some 2 else if (r == 44) || (r == 58) || (r == 40) || (r == 41) then some 3 else if (r == 32) || (r == 9) then some 0 else none
def isInt (t : List UInt8) : Bool := decide (1 ≤ (Lib.trimPrefix t [45]).length) && decide ((Lib.trimPrefix t [45]).length ≤ 10)
/-- a piece's end: is it right? -/
def endOk (k : Int) (t : List UInt8) : Bool := (k != 2) || isInt t
end Pn
namespace Pn
open Go
/-- a piece: its kind, its text -/
abbrev Pc := Int × List UInt8
def pcCells (p : Pc) : List Value := [.int .i64 p.1, .string ⟨p.2.toArray⟩]
def endP (k : Int) (t : List UInt8) : Option (List Pc) := if k = 0 then some [] else if endOk k t then some [(k, t)] else none
/-- a line is cut, rune by rune -/
def cutM : List UInt8 → Int → List UInt8 → Option (List Pc)
  | [], k, t => endP k t
  | c :: l, k, t => if goes k c.toNat then cutM l k (t ++ [c]) else (endP k t).bind fun ps => (beg c.toNat).bind fun k' => (cutM l k' [c]).map (ps ++ ·)
theorem cutM_goes {c : UInt8} {l : List UInt8} {k : Int} {t : List UInt8} (h : goes k c.toNat = true) : cutM (c :: l) k t = cutM l k (t ++ [c]) := by simp [cutM, h]
theorem cutM_end {c : UInt8} {l : List UInt8} {k : Int} {t : List UInt8} (h : goes k c.toNat = false) (he : endP k t = none) : cutM (c :: l) k t = none := by simp [cutM, h, he]
theorem cutM_beg {c : UInt8} {l : List UInt8} {k : Int} {t : List UInt8} (h : goes k c.toNat = false) (hb : beg c.toNat = none) : cutM (c :: l) k t = none := by
  simp [cutM, h, hb]
theorem cutM_next {c : UInt8} {l : List UInt8} {k k' : Int} {t : List UInt8} {ps : List Pc} (h : goes k c.toNat = false) (he : endP k t = some ps) (hb : beg c.toNat = some k') : cutM (c :: l) k t = (cutM l k' [c]).map (ps ++ ·) := by simp [cutM, h, he, hb]
theorem goes_high {k r : Int} (h : 128 ≤ r) : goes k r = false := by
  have h1 : smallB r = false := by simp [smallB]; omega
  have h2 : digitB r = false := by simp [digitB]; omega
  have h3 : (r == 46) = false := by simp; omega
  simp [goes, h1, h2, h3]
theorem beg_high {r : Int} (h : 128 ≤ r) : beg r = none := by
  have h1 : smallB r = false := by simp [smallB]; omega
  have h2 : digitB r = false := by simp [digitB]; omega
  have q : ∀ n : Int, n < 128 → (r == n) = false := fun n hn => by simp; omega
  simp only [beg, h1, h2, q 46 (by decide), q 45 (by decide), q 44 (by decide), q 58 (by decide), q 40 (by decide), q 41 (by decide), q 32 (by decide), q 9 (by decide), Bool.or_self, Bool.false_eq_true, if_false]
theorem endP_zero (t : List UInt8) : endP 0 t = some [] := rfl
theorem endP_yes {k : Int} {t : List UInt8} (h : (k == 0) = false) (he : endOk k t = true) : endP k t = some [(k, t)] := by
  have : ¬ k = 0 := by simpa using h
  simp [endP, this, he]
theorem endP_no {k : Int} {t : List UInt8} (h : (k == 0) = false) (he : endOk k t = false) : endP k t = none := by
  have : ¬ k = 0 := by simpa using h
  simp [endP, this, he]
theorem ext_more (L : ByteArray) (f j : Nat) (hf : f ≤ j) (hj : j < L.size) : (L.extract f (j + 1)).data.toList = (L.extract f j).data.toList ++ [L[j]'hj] := by
  have e : ∀ m, (L.extract f m).data.toList = (L.data.toList.drop f).take (m - f) := fun m => by simp [ByteArray.data_extract, Array.toList_extract, List.extract_eq_take_drop]
  rw [e, e, show j + 1 - f = (j - f) + 1 by omega, List.take_add_one, List.getElem?_drop, show f + (j - f) = j by omega, List.getElem?_eq_getElem (by simpa using hj)]
  rfl
theorem ext_one (L : ByteArray) (j : Nat) (hj : j < L.size) : (L.extract j (j + 1)).data.toList = [L[j]'hj] := by
  rw [ext_more L j j (Nat.le_refl _) hj]; simp
end Pn
namespace Pn
open Go
def isNm (k : Int) (t : List UInt8) : Bool := (k == 1) && decide (t.length ≤ 8) && !decide (0 ≤ Lib.indexByte t 46)
def pnum (k : Int) (t : List UInt8) : Option Int := if k = 2 then (match Lib.atoiAll t with | .ok v => some v | _ => none) else none
def preg (t : List UInt8) : Option Int :=
  if Lib.hasPrefix t [120] then (match Lib.atoiAll (Lib.trimPrefix t [120]) with | .ok v => if v ≤ 31 ∧ regL v = t then some v else none | _ => none) else none
theorem atoiAll_bd {l : List UInt8} {v : Int} (h : Lib.atoiAll l = .ok v) : -9223372036854775808 ≤ v ∧ v ≤ 9223372036854775807 := by
  unfold Lib.atoiAll at h
  split at h
  · cases h
  · dsimp only at h
    split at h
    · cases h
    · cases h
    · split at h
      · cases h
      · split at h
        · cases h
        · injection h with h
          rename_i h1 h2
          split at h <;> omega
end Pn
namespace Pn
open Go
def partCells (i : Ins) (tg : List UInt8) : List Value := [.string ⟨#[]⟩, .int .i64 i.op, .int .i64 i.rd, .int .i64 i.rs1, .int .i64 i.rs2, .int .i64 i.imm, .string ⟨tg.toArray⟩]
/-- one piece is read by its letter -/
def pstep (r : UInt8) (k : Int) (t : List UInt8) (i : Ins) (tg : List UInt8) : Option (Ins × List UInt8) :=
  if r = 100 then (preg t).map fun n => ({ i with rd := n }, tg)
  else if r = 115 then (preg t).map fun n => ({ i with rs1 := n }, tg)
  else if r = 116 then (preg t).map fun n => ({ i with rs2 := n }, tg)
  else if r = 105 then (pnum k t).map fun n => ({ i with imm := n }, tg)
  else if r = 112 then (if isNm k t then some (i, t) else (pnum k t).map fun n => ({ i with imm := n }, tg))
  else if t = [r] then some (i, tg) else none
/-- the pieces are read by a shape -/
def pshape : List UInt8 → List Pc → Ins → List UInt8 → Option (Ins × List UInt8)
  | [], [], i, tg => some (i, tg)
  | r :: F, (k, t) :: l, i, tg => (pstep r k t i tg).bind fun s => pshape F l s.1 s.2
  | _, _, _, _ => none
end Pn
namespace Pn
open Go
/-- an instruction by its row and its pieces -/
def rin (k : Nat) (l : List Pc) : List Value × Int :=
  match pshape (shp (row k).kind) l ⟨k + 1, 0, 0, 0, 0⟩ [] with
  | none => (partCells ⟨0, 0, 0, 0, 0⟩ [], 4)
  | some s => if right s.1 then (partCells s.1 s.2, 0) else (partCells ⟨0, 0, 0, 0, 0⟩ [], 5)
theorem rin_none {k : Nat} {l : List Pc} (h : pshape (shp (row k).kind) l ⟨k + 1, 0, 0, 0, 0⟩ [] = none) : rin k l = (partCells ⟨0, 0, 0, 0, 0⟩ [], 4) := by simp [rin, h]
theorem rin_yes {k : Nat} {l : List Pc} {s : Ins × List UInt8} (h : pshape (shp (row k).kind) l ⟨k + 1, 0, 0, 0, 0⟩ [] = some s) (hr : right s.1 = true) : rin k l = (partCells s.1 s.2, 0) := by simp [rin, h, hr]
theorem rin_no {k : Nat} {l : List Pc} {s : Ins × List UInt8} (h : pshape (shp (row k).kind) l ⟨k + 1, 0, 0, 0, 0⟩ [] = some s) (hr : right s.1 = false) : rin k l = (partCells ⟨0, 0, 0, 0, 0⟩ [], 5) := by simp [rin, h, hr]
/-- readPlain's answer -/
def pplain (nm : ByteArray) (l : List Pc) : Ins × Int :=
  match (List.range 64).find? (byName nm) with
  | none => (⟨0, 0, 0, 0, 0⟩, 4)
  | some k => match pshape (shp (row k).kind) l ⟨k + 1, 0, 0, 0, 0⟩ [] with
    | none => (⟨0, 0, 0, 0, 0⟩, 4)
    | some s => if right s.1 then (if s.2 = [] then (s.1, 0) else (⟨0, 0, 0, 0, 0⟩, 4)) else (⟨0, 0, 0, 0, 0⟩, 5)
end Pn
namespace Pn
open Go
/-- the program's Read -/
def prd (s : ByteArray) : Ins × Int :=
  if 2000 < s.size ∨ 0 ≤ Lib.indexByte s.data.toList 10 then (⟨0, 0, 0, 0, 0⟩, 4)
  else match cutM (Lib.cut s.data.toList [35]).1 0 [] with
    | none => (⟨0, 0, 0, 0, 0⟩, 4)
    | some [] => (⟨0, 0, 0, 0, 0⟩, 4)
    | some (p :: l) => pplain ⟨p.2.toArray⟩ l
theorem endP_len {k : Int} {t : List UInt8} {ps : List Pc} (h : endP k t = some ps) : ∀ p ∈ ps, p.2.length ≤ t.length := by
  unfold endP at h
  split at h
  · cases h; simp
  · split at h
    · cases h; simp
    · cases h
theorem cutM_len : ∀ (l : List UInt8) (k : Int) (t : List UInt8) (A : List Pc), cutM l k t = some A → ∀ p ∈ A, p.2.length ≤ l.length + t.length
  | [], k, t, A, h, p, hp => by
    simp only [cutM] at h
    have := endP_len h p hp
    simpa using this
  | c :: l, k, t, A, h, p, hp => by
    by_cases hg : goes k c.toNat = true
    · rw [cutM_goes hg] at h
      have := cutM_len l k (t ++ [c]) A h p hp
      simp at this ⊢; omega
    · have hg' : goes k c.toNat = false := by simpa using hg
      cases he : endP k t with
      | none => rw [cutM_end hg' he] at h; cases h
      | some ps =>
        cases hb : beg c.toNat with
        | none => rw [cutM_beg hg' hb] at h; cases h
        | some k' =>
          rw [cutM_next hg' he hb] at h
          cases hc : cutM l k' [c] with
          | none => rw [hc] at h; cases h
          | some B =>
            rw [hc] at h
            simp only [Option.map_some, Option.some.injEq] at h
            subst h
            rcases List.mem_append.1 hp with h1 | h1
            · have := endP_len he p h1; simp; omega
            · have := cutM_len l k' [c] B hc p h1
              simp at this ⊢; omega
end Pn
