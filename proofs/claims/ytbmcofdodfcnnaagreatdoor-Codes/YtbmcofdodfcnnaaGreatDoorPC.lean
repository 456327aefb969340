import Derived.Test.YtbmcofdodfcnnaaGreatDoorPA
import Derived.Lib.ItoaNum
namespace Pn
open Go
/-- a register's text -/
def regL (n : Int) : List UInt8 := 120 :: Lib.itoa n
/-- the text behind the name -/
def behind (kd : Nat) (d s t n : List UInt8) : List UInt8 :=
  if kd = 82 then 32 :: d ++ [44, 32] ++ s ++ [44, 32] ++ t
  else if kd = 73 ∨ kd = 72 ∨ kd = 87 then 32 :: d ++ [44, 32] ++ s ++ [44, 32] ++ n
  else if kd = 76 then 32 :: d ++ [44, 32] ++ n ++ [40] ++ s ++ [41]
  else if kd = 83 then 32 :: t ++ [44, 32] ++ n ++ [40] ++ s ++ [41]
  else if kd = 66 then 32 :: s ++ [44, 32] ++ t ++ [44, 32] ++ n
  else if kd = 85 ∨ kd = 74 then 32 :: d ++ [44, 32] ++ n
  else []
def showL (k : Nat) (rd rs1 rs2 imm : Int) : List UInt8 := (row k).name ++ behind (row k).kind (regL rd) (regL rs1) (regL rs2) (Lib.itoa imm)
def shw (i : Ins) : List UInt8 × Int := if right i then (showL (i.op - 1).toNat i.rd i.rs1 i.rs2 i.imm, 0) else ([], 1)
theorem shw_not {i : Ins} (h : right i = false) : shw i = ([], 1) := by unfold shw; simp [h]
theorem shw_yes {k : Nat} {rd rs1 rs2 imm : Int} (h : right ⟨k + 1, rd, rs1, rs2, imm⟩ = true) : shw ⟨k + 1, rd, rs1, rs2, imm⟩ = (showL k rd rs1 rs2 imm, 0) := by
  unfold shw
  have e : ((k : Int) + 1 - 1).toNat = k := by omega
  simp only [h, if_true, e]
theorem row_name : ∀ k, k < 64 → (row k).name.length ≤ 8 := by decide
end Pn
namespace Pn
open Go
def smallB (c : Int) : Bool := decide (97 ≤ c) && decide (c ≤ 122)
def digitB (c : Int) : Bool := decide (48 ≤ c) && decide (c ≤ 57)
structure Tok where
  kind : Int
  text : List UInt8
  num : Int
  blank : Bool
def tokCells (t : Tok) : List Value := [.int .u8 t.kind, .string ⟨t.text.toArray⟩, .int .i64 t.num, .bool t.blank]
def alnum (c : UInt8) : Bool := smallB c.toNat || digitB c.toNat
def dig (c : UInt8) : Bool := digitB c.toNat
/-- the number that digits make, on top of a -/
def numOf (a : Int) : List UInt8 → Int
  | [] => a
  | c :: l => numOf (10 * a + c.toNat - 48) l
/-- one token behind its first byte: kind, number, how many bytes more -/
def tok1 (c : UInt8) (r : List UInt8) : Option (Int × Int × Nat) :=
  if smallB c.toNat then some (119, 0, (r.takeWhile alnum).length)
  else if digitB c.toNat then
    if 10 < (r.takeWhile dig).length + 1 then none
    else if ((r.drop (r.takeWhile dig).length).head?.map fun d => smallB d.toNat) = some true then none
    else some (105, numOf 0 (c :: r.takeWhile dig), (r.takeWhile dig).length)
  else if c = 45 ∧ (r.head?.map dig) = some true then
    if 10 < (r.takeWhile dig).length then none
    else if ((r.drop (r.takeWhile dig).length).head?.map fun d => smallB d.toNat) = some true then none
    else some (105, - numOf 0 (r.takeWhile dig), (r.takeWhile dig).length)
  else if c = 44 ∨ c = 40 ∨ c = 41 ∨ c = 58 ∨ c = 46 then some (c.toNat, 0, 0)
  else none
/-- the tokens of a line, of fewer than n bytes -/
def toksN : Nat → List UInt8 → Bool → Option (List Tok)
  | 0, _, _ => some []
  | n + 1, l, b => match l with
    | [] => some []
    | c :: r =>
      if c = 35 then some []
      else if c = 32 ∨ c = 9 then toksN n r true
      else match tok1 c r with
        | none => none
        | some (k, v, m) => (toksN n (r.drop m) false).map (⟨k, c :: r.take m, v, b⟩ :: ·)
/-- the tokens of a line -/
def toks (l : List UInt8) (b : Bool) : Option (List Tok) := toksN (l.length + 1) l b
theorem toksN_more : ∀ (n m : Nat) (l : List UInt8) (b : Bool), l.length < n → l.length < m → toksN n l b = toksN m l b
  | 0, _, _, _, h, _ => by omega
  | _ + 1, 0, _, _, _, h => by omega
  | n + 1, m + 1, [], b, _, _ => rfl
  | n + 1, m + 1, c :: r, b, h, h2 => by
    have hn : r.length < n := by simpa using h
    have hm : r.length < m := by simpa using h2
    simp only [toksN]
    rw [toksN_more n m r true hn hm]
    split
    · rfl
    · split
      · rfl
      · split
        · rfl
        · rw [toksN_more n m _ false (by simp; omega) (by simp; omega)]
theorem toksN_at (n : Nat) (c : UInt8) (r : List UInt8) (b : Bool) : toksN (n + 1) (c :: r) b =
    if c = 35 then some []
    else if c = 32 ∨ c = 9 then toksN n r true
    else match tok1 c r with
      | none => none
      | some (k, v, m) => (toksN n (r.drop m) false).map (⟨k, c :: r.take m, v, b⟩ :: ·) := rfl
theorem toks_at (c : UInt8) (r : List UInt8) (b : Bool) : toks (c :: r) b =
    if c = 35 then some []
    else if c = 32 ∨ c = 9 then toks r true
    else match tok1 c r with
      | none => none
      | some (k, v, m) => (toks (r.drop m) false).map (⟨k, c :: r.take m, v, b⟩ :: ·) := by
  unfold toks
  rw [toksN_at]
  split
  · rfl
  · split
    · rfl
    · split
      · rfl
      · rw [toksN_more (c :: r).length _ _ false (by simp; omega) (Nat.lt_succ_self _)]
end Pn
namespace Pn
open Go
/-- byte q -/
def B (s : ByteArray) (q : Nat) : UInt8 := s.data.toList.getD q 0
theorem B_eq (s : ByteArray) (q : Nat) (h : q < s.size) : s[q] = B s q := by
  unfold B
  rw [List.getD_eq_getElem?_getD, List.getElem?_eq_getElem (by simpa using h)]
  rfl
theorem drop_cons (s : ByteArray) (j : Nat) (h : j < s.size) : s.data.toList.drop j = B s j :: s.data.toList.drop (j + 1) := by
  rw [← B_eq s j h, List.drop_eq_getElem_cons (by simpa using h)]
  rfl
theorem toks_nil (b : Bool) : toks [] b = some [] := by unfold toks; rfl
theorem toks_hash (c : UInt8) (r : List UInt8) (b : Bool) (h : c = 35) : toks (c :: r) b = some [] := by rw [toks_at]; simp [h]
theorem toks_blank (c : UInt8) (r : List UInt8) (b : Bool) (h : c = 32 ∨ c = 9) : toks (c :: r) b = toks r true := by
  rw [toks_at]
  have : c ≠ 35 := by rcases h with h | h <;> (rw [h]; decide)
  simp [h, this]
theorem toks_some (c : UInt8) (r : List UInt8) (b : Bool) (h : c ≠ 35) (h' : ¬ (c = 32 ∨ c = 9)) (k v : Int) (n : Nat) (ht : tok1 c r = some (k, v, n)) :
    toks (c :: r) b = (toks (r.drop n) false).map (⟨k, c :: r.take n, v, b⟩ :: ·) := by
  rw [toks_at]
  rw [if_neg h, if_neg h', ht]
theorem toks_none (c : UInt8) (r : List UInt8) (b : Bool) (h : c ≠ 35) (h' : ¬ (c = 32 ∨ c = 9)) (ht : tok1 c r = none) : toks (c :: r) b = none := by
  rw [toks_at]
  rw [if_neg h, if_neg h', ht]
theorem u8_ne {c : UInt8} {n : Nat} (hn : n < 256) (h : ((c.toNat : Int) != (n : Int)) = true) : c ≠ UInt8.ofNat n := by
  rintro rfl
  simp [Nat.mod_eq_of_lt hn] at h
theorem u8_eq {c : UInt8} {n : Nat} (h : (c.toNat : Int) = (n : Int)) : c = UInt8.ofNat n := by
  have : c.toNat = n := by omega
  rw [← this]; simp
theorem u8_ne' {c : UInt8} {n : Nat} (hn : n < 256) (h : ((c.toNat : Int) == (n : Int)) = false) : c ≠ UInt8.ofNat n := by
  rintro rfl
  simp [Nat.mod_eq_of_lt hn] at h
/-- the length of the first run -/
theorem run_len (p : UInt8 → Bool) (l : List UInt8) (m : Nat) (hm : m ≤ l.length) (h : ∀ q, q < m → p (l.getD q 0) = true) (he : m = l.length ∨ p (l.getD m 0) = false) : (l.takeWhile p).length = m := by
  induction l generalizing m with
  | nil => simp at hm; simp [hm]
  | cons c l ih =>
    cases m with
    | zero =>
      rcases he with he | he
      · simp at he
      · simp at he; simp [he]
    | succ m =>
      have h0 := h 0 (by omega)
      simp at h0
      rw [List.takeWhile_cons, if_pos h0, List.length_cons, ih m (by simpa using hm) (fun q hq => by have := h (q + 1) (by omega); simpa using this) (by rcases he with he | he; (left; simpa using he); (right; simpa using he))]
theorem run_len_at (p : UInt8 → Bool) (s : ByteArray) (i n : Nat) (hn : 1 ≤ n) (hi : i + n ≤ s.size) (h : ∀ q, 1 ≤ q → q < n → p (B s (i + q)) = true) (he : i + n = s.size ∨ p (B s (i + n)) = false) :
    ((s.data.toList.drop (i + 1)).takeWhile p).length = n - 1 := by
  have hl : s.data.toList.length = s.size := by simp
  apply run_len
  · rw [List.length_drop, hl]; omega
  · intro q hq
    have := h (q + 1) (by omega) (by omega)
    unfold B at this
    rw [List.getD_eq_getElem?_getD, List.getElem?_drop]
    rw [List.getD_eq_getElem?_getD] at this
    have e : i + 1 + q = i + (q + 1) := by omega
    rw [e]; exact this
  · rcases he with he | he
    · left; rw [List.length_drop, hl]; omega
    · right
      unfold B at he
      rw [List.getD_eq_getElem?_getD, List.getElem?_drop]
      rw [List.getD_eq_getElem?_getD] at he
      have e : i + 1 + (n - 1) = i + n := by omega
      rw [e]; exact he
theorem extract_list (s : ByteArray) (i n : Nat) (hn : 1 ≤ n) (h : i + n ≤ s.size) : (s.extract i (i + n)).data.toList = B s i :: (s.data.toList.drop (i + 1)).take (n - 1) := by
  have e : (s.extract i (i + n)).data.toList = (s.data.toList.drop i).take n := by
    simp [ByteArray.data_extract, Array.toList_extract, List.extract_eq_take_drop]
  rw [e, drop_cons s i (by omega)]
  obtain ⟨m, rfl⟩ : ∃ m, n = m + 1 := ⟨n - 1, by omega⟩
  simp
end Pn
