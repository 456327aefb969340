import Derived.Test.YtbmcofdodfcnnaaGreatDoorGP
import Derived.Lib.ItoaNum
import Derived.Below
import Derived.Lib.Strings
import Derived.Lib.AtoiAll
import Derived.Lib.IndexMore
namespace Pn
open Go
def regL (n : Int) : List UInt8 := 120 :: Lib.itoa n
def behind (kd : Nat) (d s t n : List UInt8) : List UInt8 :=
  if kd = 82 then 32 :: d ++ [44, 32] ++ s ++ [44, 32] ++ t
  else if kd = 73 ∨ kd = 72 ∨ kd = 87 then 32 :: d ++ [44, 32] ++ s ++ [44, 32] ++ n
  else if kd = 76 then 32 :: d ++ [44, 32] ++ n ++ [40] ++ s ++ [41]
  else if kd = 83 then 32 :: t ++ [44, 32] ++ n ++ [40] ++ s ++ [41]
  else if kd = 66 then 32 :: s ++ [44, 32] ++ t ++ [44, 32] ++ n
  else if kd = 85 ∨ kd = 74 then 32 :: d ++ [44, 32] ++ n
  else []
def showL (k : Nat) (rd rs1 rs2 imm : Int) : List UInt8 := (row k).name ++ behind (row k).kind (regL rd) (regL rs1) (regL rs2) (Lib.itoa imm)
def shw (i : Ins) : List UInt8 × Int := if right i then (showL (i.op - 1).toNat i.rd i.rs1 i.rs2 i.imm, 0) else ([], 1)
theorem shw_yes {k : Nat} {rd rs1 rs2 imm : Int} (h : right ⟨k + 1, rd, rs1, rs2, imm⟩ = true) : shw ⟨k + 1, rd, rs1, rs2, imm⟩ = (showL k rd rs1 rs2 imm, 0) := by
  unfold shw
  have e : ((k : Int) + 1 - 1).toNat = k := by omega
  simp only [h, if_true, e]
theorem row_name : ∀ k, k < 64 → (row k).name.length ≤ 8 := by decide
end Pn
namespace Pn
open Go
def smallB (c : Int) : Bool := decide (97 ≤ c) && decide (c ≤ 122)
def digitB (c : Int) : Bool := decide (48 ≤ c) && decide (c ≤ 57)
end Pn
namespace Pn
open Go
end Pn
namespace Pn
open Go Go.RowKit
end Pn
namespace Pn
open Go Go.RowKit
end Pn
namespace Pn
open Go Go.RowKit
end Pn
namespace Pn
open Go Go.RowKit
end Pn
namespace Pn
open Go Go.RowKit
end Pn
namespace Pn
open Go Go.RowKit
end Pn
namespace Pn
open Go
def shp (kd : Nat) : List UInt8 :=
  if kd = 82 then [100, 44, 115, 44, 116] else if kd = 73 ∨ kd = 72 ∨ kd = 87 then [100, 44, 115, 44, 105] else if kd = 76 then [100, 44, 105, 40, 115, 41] else if kd = 83 then [116, 44, 105, 40, 115, 41]
  else if kd = 66 then [115, 44, 116, 44, 112] else if kd = 85 then [100, 44, 105] else if kd = 74 then [100, 44, 112] else []
def partL (i : Ins) (r : UInt8) : List UInt8 :=
  if r = 100 then regL i.rd else if r = 115 then regL i.rs1 else if r = 116 then regL i.rs2 else if r = 105 ∨ r = 112 then Lib.itoa i.imm else if r = 44 then [44, 32] else [r]
def Lett (r : UInt8) : Prop := r = 100 ∨ r = 115 ∨ r = 116 ∨ r = 105 ∨ r = 112 ∨ r = 44 ∨ r = 40 ∨ r = 41
theorem shp_lett {kd : Nat} (h : kindsOk kd) : ∀ r ∈ shp kd, Lett r := by
  unfold Lett
  rcases h with rfl | rfl | rfl | rfl | rfl | rfl | rfl | rfl | rfl | rfl <;> decide
theorem shp_len (kd : Nat) : (shp kd).length ≤ 6 := by
  unfold shp
  repeat' split
  all_goals simp
theorem shp_behind {kd : Nat} (h : kindsOk kd) (i : Ins) : (if shp kd = [] then [] else 32 :: (shp kd).flatMap (partL i)) = behind kd (regL i.rd) (regL i.rs1) (regL i.rs2) (Lib.itoa i.imm) := by
  rcases h with rfl | rfl | rfl | rfl | rfl | rfl | rfl | rfl | rfl | rfl <;> simp [shp, behind, partL]
end Pn
namespace Pn
open Go
def goes (k r : Int) : Bool := if k = 1 then (smallB r || digitB r || (r == 46)) else if k = 2 then digitB r else false
def beg (r : Int) : Option Int :=
  if smallB r || (r == 46) then some 1 else if digitB r || (r == 45) then some 2 else if (r == 44) || (r == 58) || (r == 40) || (r == 41) then some 3 else if (r == 32) || (r == 9) then some 0 else none
def isInt (t : List UInt8) : Bool := decide (1 ≤ (Lib.trimPrefix t [45]).length) && decide ((Lib.trimPrefix t [45]).length ≤ 10)
def endOk (k : Int) (t : List UInt8) : Bool := (k != 2) || isInt t
end Pn
namespace Pn
open Go
abbrev Pc := Int × List UInt8
def pcCells (p : Pc) : List Value := [.int .i64 p.1, .string ⟨p.2.toArray⟩]
def endP (k : Int) (t : List UInt8) : Option (List Pc) := if k = 0 then some [] else if endOk k t then some [(k, t)] else none
def cutM : List UInt8 → Int → List UInt8 → Option (List Pc)
  | [], k, t => endP k t
  | c :: l, k, t => if goes k c.toNat then cutM l k (t ++ [c]) else (endP k t).bind fun ps => (beg c.toNat).bind fun k' => (cutM l k' [c]).map (ps ++ ·)
theorem cutM_goes {c : UInt8} {l : List UInt8} {k : Int} {t : List UInt8} (h : goes k c.toNat = true) : cutM (c :: l) k t = cutM l k (t ++ [c]) := by simp [cutM, h]
theorem cutM_end {c : UInt8} {l : List UInt8} {k : Int} {t : List UInt8} (h : goes k c.toNat = false) (he : endP k t = none) : cutM (c :: l) k t = none := by simp [cutM, h, he]
theorem cutM_beg {c : UInt8} {l : List UInt8} {k : Int} {t : List UInt8} (h : goes k c.toNat = false) (hb : beg c.toNat = none) : cutM (c :: l) k t = none := by
  simp [cutM, h, hb]
theorem cutM_next {c : UInt8} {l : List UInt8} {k k' : Int} {t : List UInt8} {ps : List Pc} (h : goes k c.toNat = false) (he : endP k t = some ps) (hb : beg c.toNat = some k') : cutM (c :: l) k t = (cutM l k' [c]).map (ps ++ ·) := by simp [cutM, h, he, hb]
theorem goes_high {k r : Int} (h : 128 ≤ r) : goes k r = false := by
  have h1 : smallB r = false := by simp [smallB]; omega
  have h2 : digitB r = false := by simp [digitB]; omega
  have h3 : (r == 46) = false := by simp; omega
  simp [goes, h1, h2, h3]
theorem beg_high {r : Int} (h : 128 ≤ r) : beg r = none := by
  have h1 : smallB r = false := by simp [smallB]; omega
  have h2 : digitB r = false := by simp [digitB]; omega
  have q : ∀ n : Int, n < 128 → (r == n) = false := fun n hn => by simp; omega
  simp only [beg, h1, h2, q 46 (by decide), q 45 (by decide), q 44 (by decide), q 58 (by decide), q 40 (by decide), q 41 (by decide), q 32 (by decide), q 9 (by decide), Bool.or_self, Bool.false_eq_true, if_false]
theorem endP_zero (t : List UInt8) : endP 0 t = some [] := rfl
theorem endP_yes {k : Int} {t : List UInt8} (h : (k == 0) = false) (he : endOk k t = true) : endP k t = some [(k, t)] := by
  have : ¬ k = 0 := by simpa using h
  simp [endP, this, he]
theorem endP_no {k : Int} {t : List UInt8} (h : (k == 0) = false) (he : endOk k t = false) : endP k t = none := by
  have : ¬ k = 0 := by simpa using h
  simp [endP, this, he]
theorem ext_more (L : ByteArray) (f j : Nat) (hf : f ≤ j) (hj : j < L.size) : (L.extract f (j + 1)).data.toList = (L.extract f j).data.toList ++ [L[j]'hj] := by
  have e : ∀ m, (L.extract f m).data.toList = (L.data.toList.drop f).take (m - f) := fun m => by simp [ByteArray.data_extract, Array.toList_extract, List.extract_eq_take_drop]
  rw [e, e, show j + 1 - f = (j - f) + 1 by omega, List.take_add_one, List.getElem?_drop, show f + (j - f) = j by omega, List.getElem?_eq_getElem (by simpa using hj)]
  rfl
theorem ext_one (L : ByteArray) (j : Nat) (hj : j < L.size) : (L.extract j (j + 1)).data.toList = [L[j]'hj] := by
  rw [ext_more L j j (Nat.le_refl _) hj]; simp
end Pn
namespace Pn
open Go
def isNm (k : Int) (t : List UInt8) : Bool := (k == 1) && decide (t.length ≤ 8) && !decide (0 ≤ Lib.indexByte t 46)
def pnum (k : Int) (t : List UInt8) : Option Int := if k = 2 then (match Lib.atoiAll t with | .ok v => some v | _ => none) else none
def preg (t : List UInt8) : Option Int :=
  if Lib.hasPrefix t [120] then (match Lib.atoiAll (Lib.trimPrefix t [120]) with | .ok v => if v ≤ 31 ∧ regL v = t then some v else none | _ => none) else none
theorem atoiAll_bd {l : List UInt8} {v : Int} (h : Lib.atoiAll l = .ok v) : -9223372036854775808 ≤ v ∧ v ≤ 9223372036854775807 := by
  unfold Lib.atoiAll at h
  split at h
  · cases h
  · dsimp only at h
    split at h
    · cases h
    · cases h
    · split at h
      · cases h
      · split at h
        · cases h
        · injection h with h
          rename_i h1 h2
          split at h <;> omega
end Pn
namespace Pn
open Go
def partCells (i : Ins) (tg : List UInt8) : List Value := [.string ⟨#[]⟩, .int .i64 i.op, .int .i64 i.rd, .int .i64 i.rs1, .int .i64 i.rs2, .int .i64 i.imm, .string ⟨tg.toArray⟩]
def pstep (r : UInt8) (k : Int) (t : List UInt8) (i : Ins) (tg : List UInt8) : Option (Ins × List UInt8) :=
  if r = 100 then (preg t).map fun n => ({ i with rd := n }, tg)
  else if r = 115 then (preg t).map fun n => ({ i with rs1 := n }, tg)
  else if r = 116 then (preg t).map fun n => ({ i with rs2 := n }, tg)
  else if r = 105 then (pnum k t).map fun n => ({ i with imm := n }, tg)
  else if r = 112 then (if isNm k t then some (i, t) else (pnum k t).map fun n => ({ i with imm := n }, tg))
  else if t = [r] then some (i, tg) else none
def pshape : List UInt8 → List Pc → Ins → List UInt8 → Option (Ins × List UInt8)
  | [], [], i, tg => some (i, tg)
  | r :: F, (k, t) :: l, i, tg => (pstep r k t i tg).bind fun s => pshape F l s.1 s.2
  | _, _, _, _ => none
end Pn
namespace Pn
open Go
def rin (k : Nat) (l : List Pc) : List Value × Int :=
  match pshape (shp (row k).kind) l ⟨k + 1, 0, 0, 0, 0⟩ [] with
  | none => (partCells ⟨0, 0, 0, 0, 0⟩ [], 4)
  | some s => if right s.1 then (partCells s.1 s.2, 0) else (partCells ⟨0, 0, 0, 0, 0⟩ [], 5)
theorem rin_none {k : Nat} {l : List Pc} (h : pshape (shp (row k).kind) l ⟨k + 1, 0, 0, 0, 0⟩ [] = none) : rin k l = (partCells ⟨0, 0, 0, 0, 0⟩ [], 4) := by simp [rin, h]
theorem rin_yes {k : Nat} {l : List Pc} {s : Ins × List UInt8} (h : pshape (shp (row k).kind) l ⟨k + 1, 0, 0, 0, 0⟩ [] = some s) (hr : right s.1 = true) : rin k l = (partCells s.1 s.2, 0) := by simp [rin, h, hr]
theorem rin_no {k : Nat} {l : List Pc} {s : Ins × List UInt8} (h : pshape (shp (row k).kind) l ⟨k + 1, 0, 0, 0, 0⟩ [] = some s) (hr : right s.1 = false) : rin k l = (partCells ⟨0, 0, 0, 0, 0⟩ [], 5) := by simp [rin, h, hr]
def pplain (nm : ByteArray) (l : List Pc) : Ins × Int :=
  match (List.range 64).find? (byName nm) with
  | none => (⟨0, 0, 0, 0, 0⟩, 4)
  | some k => match pshape (shp (row k).kind) l ⟨k + 1, 0, 0, 0, 0⟩ [] with
    | none => (⟨0, 0, 0, 0, 0⟩, 4)
    | some s => if right s.1 then (if s.2 = [] then (s.1, 0) else (⟨0, 0, 0, 0, 0⟩, 4)) else (⟨0, 0, 0, 0, 0⟩, 5)
end Pn
namespace Pn
open Go
theorem endP_len {k : Int} {t : List UInt8} {ps : List Pc} (h : endP k t = some ps) : ∀ p ∈ ps, p.2.length ≤ t.length := by
  unfold endP at h
  split at h
  · cases h; simp
  · split at h
    · cases h; simp
    · cases h
theorem cutM_len : ∀ (l : List UInt8) (k : Int) (t : List UInt8) (A : List Pc), cutM l k t = some A → ∀ p ∈ A, p.2.length ≤ l.length + t.length
  | [], k, t, A, h, p, hp => by
    simp only [cutM] at h
    have := endP_len h p hp
    simpa using this
  | c :: l, k, t, A, h, p, hp => by
    by_cases hg : goes k c.toNat = true
    · rw [cutM_goes hg] at h
      have := cutM_len l k (t ++ [c]) A h p hp
      simp at this ⊢; omega
    · have hg' : goes k c.toNat = false := by simpa using hg
      cases he : endP k t with
      | none => rw [cutM_end hg' he] at h; cases h
      | some ps =>
        cases hb : beg c.toNat with
        | none => rw [cutM_beg hg' hb] at h; cases h
        | some k' =>
          rw [cutM_next hg' he hb] at h
          cases hc : cutM l k' [c] with
          | none => rw [hc] at h; cases h
          | some B =>
            rw [hc] at h
            simp only [Option.map_some, Option.some.injEq] at h
            subst h
            rcases List.mem_append.1 hp with h1 | h1
            · have := endP_len he p h1; simp; omega
            · have := cutM_len l k' [c] B hc p h1
              simp at this ⊢; omega
end Pn
