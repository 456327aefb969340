import Derived.Test.YtbmcofdodfcnnaaGreatDoorV15
import Derived.Test.YtbmcofdodfcnnaaGreatDoorGQ
namespace Go.Proofs.YtbmcofdodfcnnaaGreatDoor
open Go.RowKit

def PieceOut (P : Nat) (o : Option (Pn.Ins × List UInt8)) (w : World) (e : Ending) (w' : World) : Prop :=
  e = .returned (.bool o.isSome) ∧ Keeps P none w w' ∧ ∀ s, o = some s → CellsAt P (Pn.partCells s.1 s.2) w'

set_option maxHeartbeats 2000000 in
theorem readPiece_d (P : Nat) (i : Pn.Ins) (tg : List UInt8) (k : Int) (t : ByteArray) (w : World) (ht : t.size ≤ 2000) (hE : Env w) (hC : CellsAt P (Pn.partCells i tg) w) :
    Calls Tryz.prog 223 #[.pointer (some ⟨P, 0, none⟩), .int .i32 100, .agg #[.int .i64 k, .string t]] w fun e w' => PieceOut P (Pn.pstep 100 k t.data.toList i tg) w e w' := by
  have HE := hide (fun o => hE.alloc o)
  have HC := hide hC
  go_enter Tryz.func223, Tryz.ntmps223
  go_wp2_with fail
  refine (readRegister_is k t _ ht (HE.out _)).mono ?_
  rintro e w1 ⟨rfl, hB⟩
  have HB := hide (((Below.refl w.heap.size w).alloc (Nat.le_refl _) _).trans (hB.mono (by simp)))
  have HC1 := hide (CellsAt.next HC.out HB.out)
  obtain ⟨hz, yf, yc⟩ := HC1.out
  have y2 := yc 2 _ rfl
  clear hB yc
  have HS : Hid (Pn.pstep 100 k t.data.toList i tg = (Pn.preg t.data.toList).map fun n => ({ i with rd := n }, tg)) := rfl
  generalize Pn.preg t.data.toList = q at *
  go_wp2_with fail
  go_ret
  refine ⟨?_, (Keeps.of_below HB.out).trans (Keeps.setCell P none _ _ _), fun s hs => ?_⟩
  · rw [HS.out]; cases q <;> rfl
  · rw [HS.out] at hs
    cases q with
    | none => cases hs
    | some n => cases hs; exact CellsAt.set HC1.out 2 _ (by simp [Pn.partCells])

set_option maxHeartbeats 2000000 in
theorem readPiece_s (P : Nat) (i : Pn.Ins) (tg : List UInt8) (k : Int) (t : ByteArray) (w : World) (ht : t.size ≤ 2000) (hE : Env w) (hC : CellsAt P (Pn.partCells i tg) w) :
    Calls Tryz.prog 223 #[.pointer (some ⟨P, 0, none⟩), .int .i32 115, .agg #[.int .i64 k, .string t]] w fun e w' => PieceOut P (Pn.pstep 115 k t.data.toList i tg) w e w' := by
  have HE := hide (fun o => hE.alloc o)
  have HC := hide hC
  go_enter Tryz.func223, Tryz.ntmps223
  go_wp2_with fail
  refine (readRegister_is k t _ ht (HE.out _)).mono ?_
  rintro e w1 ⟨rfl, hB⟩
  have HB := hide (((Below.refl w.heap.size w).alloc (Nat.le_refl _) _).trans (hB.mono (by simp)))
  have HC1 := hide (CellsAt.next HC.out HB.out)
  obtain ⟨hz, yf, yc⟩ := HC1.out
  have y2 := yc 3 _ rfl
  clear hB yc
  have HS : Hid (Pn.pstep 115 k t.data.toList i tg = (Pn.preg t.data.toList).map fun n => ({ i with rs1 := n }, tg)) := rfl
  generalize Pn.preg t.data.toList = q at *
  go_wp2_with fail
  go_ret
  refine ⟨?_, (Keeps.of_below HB.out).trans (Keeps.setCell P none _ _ _), fun s hs => ?_⟩
  · rw [HS.out]; cases q <;> rfl
  · rw [HS.out] at hs
    cases q with
    | none => cases hs
    | some n => cases hs; exact CellsAt.set HC1.out 3 _ (by simp [Pn.partCells])

set_option maxHeartbeats 2000000 in
theorem readPiece_t (P : Nat) (i : Pn.Ins) (tg : List UInt8) (k : Int) (t : ByteArray) (w : World) (ht : t.size ≤ 2000) (hE : Env w) (hC : CellsAt P (Pn.partCells i tg) w) :
    Calls Tryz.prog 223 #[.pointer (some ⟨P, 0, none⟩), .int .i32 116, .agg #[.int .i64 k, .string t]] w fun e w' => PieceOut P (Pn.pstep 116 k t.data.toList i tg) w e w' := by
  have HE := hide (fun o => hE.alloc o)
  have HC := hide hC
  go_enter Tryz.func223, Tryz.ntmps223
  go_wp2_with fail
  refine (readRegister_is k t _ ht (HE.out _)).mono ?_
  rintro e w1 ⟨rfl, hB⟩
  have HB := hide (((Below.refl w.heap.size w).alloc (Nat.le_refl _) _).trans (hB.mono (by simp)))
  have HC1 := hide (CellsAt.next HC.out HB.out)
  obtain ⟨hz, yf, yc⟩ := HC1.out
  have y2 := yc 4 _ rfl
  clear hB yc
  have HS : Hid (Pn.pstep 116 k t.data.toList i tg = (Pn.preg t.data.toList).map fun n => ({ i with rs2 := n }, tg)) := rfl
  generalize Pn.preg t.data.toList = q at *
  go_wp2_with fail
  go_ret
  refine ⟨?_, (Keeps.of_below HB.out).trans (Keeps.setCell P none _ _ _), fun s hs => ?_⟩
  · rw [HS.out]; cases q <;> rfl
  · rw [HS.out] at hs
    cases q with
    | none => cases hs
    | some n => cases hs; exact CellsAt.set HC1.out 4 _ (by simp [Pn.partCells])

set_option maxHeartbeats 2000000 in
theorem readPiece_i (P : Nat) (i : Pn.Ins) (tg : List UInt8) (k : Int) (t : ByteArray) (w : World) (ht : t.size ≤ 2000) (hE : Env w) (hC : CellsAt P (Pn.partCells i tg) w) :
    Calls Tryz.prog 223 #[.pointer (some ⟨P, 0, none⟩), .int .i32 105, .agg #[.int .i64 k, .string t]] w fun e w' => PieceOut P (Pn.pstep 105 k t.data.toList i tg) w e w' := by
  have HE := hide (fun o => hE.alloc o)
  have HC := hide hC
  go_enter Tryz.func223, Tryz.ntmps223
  go_wp2_with fail
  have HS : Hid (Pn.pstep 105 k t.data.toList i tg = (Pn.pnum k t.data.toList).map fun n => ({ i with imm := n }, tg)) := rfl
  refine (readNumber_is k t _ ht (HE.out _)).mono ?_
  rintro e w1 ⟨n, rfl, hn, hB⟩
  have HB := hide (((Below.refl w.heap.size w).alloc (Nat.le_refl _) _).trans (hB.mono (by simp)))
  have HC1 := hide (CellsAt.next HC.out HB.out)
  obtain ⟨hz, yf, yc⟩ := HC1.out
  have y2 := yc 5 _ rfl
  have HN := hide hn
  clear hB yc hn
  generalize Pn.pnum k t.data.toList = q at *
  go_wp2_with fail
  go_ret
  refine ⟨?_, (Keeps.of_below HB.out).trans (Keeps.setCell P none _ _ _), fun s hs => ?_⟩
  · rw [HS.out]; cases q <;> rfl
  · rw [HS.out] at hs
    cases q with
    | none => cases hs
    | some v => cases hs; have := HN.out v rfl; subst this; exact CellsAt.set HC1.out 5 _ (by simp [Pn.partCells])

set_option maxHeartbeats 2000000 in
theorem readPiece_p0 (P : Nat) (i : Pn.Ins) (tg : List UInt8) (k : Int) (t : ByteArray) (w : World) (ht : t.size ≤ 2000) (hE : Env w) (hC : CellsAt P (Pn.partCells i tg) w) (hn : Pn.isNm k t.data.toList = false) :
    Calls Tryz.prog 223 #[.pointer (some ⟨P, 0, none⟩), .int .i32 112, .agg #[.int .i64 k, .string t]] w fun e w' => PieceOut P (Pn.pstep 112 k t.data.toList i tg) w e w' := by
  have HE := hide (fun o => hE.alloc o)
  have HC := hide hC
  go_enter Tryz.func223, Tryz.ntmps223
  go_wp2_with fail
  have HS : Hid (Pn.pstep 112 k t.data.toList i tg = (Pn.pnum k t.data.toList).map fun n => ({ i with imm := n }, tg)) := by show (if Pn.isNm k t.data.toList then some (i, t.data.toList) else _) = _; rw [hn]; rfl
  refine (isName_is k t _ ht).mono ?_
  rintro e w0 ⟨rfl, hB0⟩
  rw [hn]
  have hx := (CellsAt.new w [.int .i64 k, .string t] 131).next hB0
  have x0 := hx.2.2 0 _ rfl
  have x1 := hx.2.2 1 _ rfl
  have HB0 := hide hB0
  have HE0 : Hid (Env w0) := Env.below (HE.out _) hB0 (HE.out _).1
  clear hB0 hx
  go_wp2_with fail
  refine (readNumber_is k t _ ht HE0.out).mono ?_
  rintro e w1 ⟨n, rfl, hn', hB⟩
  have HB := hide ((((Below.refl w.heap.size w).alloc (Nat.le_refl _) _).trans (HB0.out.mono (by simp))).trans (hB.mono (by have := HB0.out.size; simp at this; omega)))
  have HC1 := hide (CellsAt.next HC.out HB.out)
  obtain ⟨hz, yf, yc⟩ := HC1.out
  have y2 := yc 5 _ rfl
  have HN := hide hn'
  clear hB yc hn'
  generalize Pn.pnum k t.data.toList = q at *
  go_wp2_with fail
  go_ret
  refine ⟨?_, (Keeps.of_below HB.out).trans (Keeps.setCell P none _ _ _), fun s hs => ?_⟩
  · rw [HS.out]; cases q <;> rfl
  · rw [HS.out] at hs
    cases q with
    | none => cases hs
    | some v => cases hs; have := HN.out v rfl; subst this; exact CellsAt.set HC1.out 5 _ (by simp [Pn.partCells])

set_option maxHeartbeats 2000000 in
theorem readPiece_p1 (P : Nat) (i : Pn.Ins) (tg : List UInt8) (k : Int) (t : ByteArray) (w : World) (ht : t.size ≤ 2000) (hC : CellsAt P (Pn.partCells i tg) w) (hn : Pn.isNm k t.data.toList = true) :
    Calls Tryz.prog 223 #[.pointer (some ⟨P, 0, none⟩), .int .i32 112, .agg #[.int .i64 k, .string t]] w fun e w' => PieceOut P (Pn.pstep 112 k t.data.toList i tg) w e w' := by
  have HC := hide hC
  have HS : Hid (Pn.pstep 112 k t.data.toList i tg = some (i, t.data.toList)) := by show (if Pn.isNm k t.data.toList then some (i, t.data.toList) else _) = _; rw [hn]; rfl
  go_enter Tryz.func223, Tryz.ntmps223
  go_wp2_with fail
  refine (isName_is k t _ ht).mono ?_
  rintro e w0 ⟨rfl, hB0⟩
  rw [hn]
  have hx := (CellsAt.new w [.int .i64 k, .string t] 131).next hB0
  have x0 := hx.2.2 0 _ rfl
  have x1 := hx.2.2 1 _ rfl
  have HB0 := hide (((Below.refl w.heap.size w).alloc (Nat.le_refl _) _).trans (hB0.mono (by simp)))
  have HC1 := hide (CellsAt.next HC.out HB0.out)
  obtain ⟨hz, yf, yc⟩ := HC1.out
  have y2 := yc 6 _ rfl
  clear hB0 hx yc
  go_wp2_with fail
  go_ret
  refine ⟨by rw [HS.out]; rfl, (Keeps.of_below HB0.out).trans (Keeps.setCell P none _ _ _), fun s hs => ?_⟩
  rw [HS.out] at hs
  cases hs
  exact CellsAt.set HC1.out 6 _ (by simp [Pn.partCells])

theorem readPiece_44 (P : Nat) (i : Pn.Ins) (tg : List UInt8) (k : Int) (t : ByteArray) (w : World) (hC : CellsAt P (Pn.partCells i tg) w) :
    Calls Tryz.prog 223 #[.pointer (some ⟨P, 0, none⟩), .int .i32 44, .agg #[.int .i64 k, .string t]] w fun e w' => PieceOut P (Pn.pstep 44 k t.data.toList i tg) w e w' := by
  have HC := hide hC
  have HS : Hid (Pn.pstep 44 k t.data.toList i tg = if t.data.toList = [44] then some (i, tg) else none) := rfl
  go_enter Tryz.func223, Tryz.ntmps223
  go_wp2_with fail
  go_ret
  have hB : Below w.heap.size w (w.alloc (.cells #[.int .i64 k, .string t] 131)) := (Below.refl _ _).alloc (Nat.le_refl _) _
  refine ⟨?_, Keeps.of_below hB, fun s hs => ?_⟩
  · rw [HS.out]
    refine ret_val (congrArg Value.bool ?_)
    have hen : Utf8.encode 44 = ⟨#[44]⟩ := by rfl
    by_cases h : t.data.toList = [44]
    · rw [if_pos h]; show (t.toList == (Utf8.encode 44).toList) = true
      rw [hen, ByteArray.toList_eq, ByteArray.toList_eq, h]; rfl
    · rw [if_neg h]; show (t.toList == (Utf8.encode 44).toList) = false
      rw [hen, ByteArray.toList_eq, ByteArray.toList_eq]; exact beq_false_of_ne h
  · rw [HS.out] at hs
    split at hs
    · cases hs; exact CellsAt.next HC.out hB
    · cases hs

theorem readPiece_40 (P : Nat) (i : Pn.Ins) (tg : List UInt8) (k : Int) (t : ByteArray) (w : World) (hC : CellsAt P (Pn.partCells i tg) w) :
    Calls Tryz.prog 223 #[.pointer (some ⟨P, 0, none⟩), .int .i32 40, .agg #[.int .i64 k, .string t]] w fun e w' => PieceOut P (Pn.pstep 40 k t.data.toList i tg) w e w' := by
  have HC := hide hC
  have HS : Hid (Pn.pstep 40 k t.data.toList i tg = if t.data.toList = [40] then some (i, tg) else none) := rfl
  go_enter Tryz.func223, Tryz.ntmps223
  go_wp2_with fail
  go_ret
  have hB : Below w.heap.size w (w.alloc (.cells #[.int .i64 k, .string t] 131)) := (Below.refl _ _).alloc (Nat.le_refl _) _
  refine ⟨?_, Keeps.of_below hB, fun s hs => ?_⟩
  · rw [HS.out]
    refine ret_val (congrArg Value.bool ?_)
    have hen : Utf8.encode 40 = ⟨#[40]⟩ := by rfl
    by_cases h : t.data.toList = [40]
    · rw [if_pos h]; show (t.toList == (Utf8.encode 40).toList) = true
      rw [hen, ByteArray.toList_eq, ByteArray.toList_eq, h]; rfl
    · rw [if_neg h]; show (t.toList == (Utf8.encode 40).toList) = false
      rw [hen, ByteArray.toList_eq, ByteArray.toList_eq]; exact beq_false_of_ne h
  · rw [HS.out] at hs
    split at hs
    · cases hs; exact CellsAt.next HC.out hB
    · cases hs

theorem readPiece_41 (P : Nat) (i : Pn.Ins) (tg : List UInt8) (k : Int) (t : ByteArray) (w : World) (hC : CellsAt P (Pn.partCells i tg) w) :
    Calls Tryz.prog 223 #[.pointer (some ⟨P, 0, none⟩), .int .i32 41, .agg #[.int .i64 k, .string t]] w fun e w' => PieceOut P (Pn.pstep 41 k t.data.toList i tg) w e w' := by
  have HC := hide hC
  have HS : Hid (Pn.pstep 41 k t.data.toList i tg = if t.data.toList = [41] then some (i, tg) else none) := rfl
  go_enter Tryz.func223, Tryz.ntmps223
  go_wp2_with fail
  go_ret
  have hB : Below w.heap.size w (w.alloc (.cells #[.int .i64 k, .string t] 131)) := (Below.refl _ _).alloc (Nat.le_refl _) _
  refine ⟨?_, Keeps.of_below hB, fun s hs => ?_⟩
  · rw [HS.out]
    refine ret_val (congrArg Value.bool ?_)
    have hen : Utf8.encode 41 = ⟨#[41]⟩ := by rfl
    by_cases h : t.data.toList = [41]
    · rw [if_pos h]; show (t.toList == (Utf8.encode 41).toList) = true
      rw [hen, ByteArray.toList_eq, ByteArray.toList_eq, h]; rfl
    · rw [if_neg h]; show (t.toList == (Utf8.encode 41).toList) = false
      rw [hen, ByteArray.toList_eq, ByteArray.toList_eq]; exact beq_false_of_ne h
  · rw [HS.out] at hs
    split at hs
    · cases hs; exact CellsAt.next HC.out hB
    · cases hs

theorem readPiece_is (r : UInt8) (hr : Pn.Lett r) (P : Nat) (i : Pn.Ins) (tg : List UInt8) (k : Int) (t : ByteArray) (w : World) (ht : t.size ≤ 2000) (hE : Env w) (hC : CellsAt P (Pn.partCells i tg) w) :
    Calls Tryz.prog 223 #[.pointer (some ⟨P, 0, none⟩), .int .i32 r.toNat, .agg #[.int .i64 k, .string t]] w fun e w' => PieceOut P (Pn.pstep r k t.data.toList i tg) w e w' := by
  rcases hr with rfl | rfl | rfl | rfl | rfl | rfl | rfl | rfl
  · exact readPiece_d P i tg k t w ht hE hC
  · exact readPiece_s P i tg k t w ht hE hC
  · exact readPiece_t P i tg k t w ht hE hC
  · exact readPiece_i P i tg k t w ht hE hC
  · by_cases h : Pn.isNm k t.data.toList = true
    · exact readPiece_p1 P i tg k t w ht hC h
    · exact readPiece_p0 P i tg k t w ht hE hC (by simpa using h)
  · exact readPiece_44 P i tg k t w hC
  · exact readPiece_40 P i tg k t w hC
  · exact readPiece_41 P i tg k t w hC
end Go.Proofs.YtbmcofdodfcnnaaGreatDoor
namespace Go.Proofs.YtbmcofdodfcnnaaGreatDoor
open Go.RowKit

/-- the pieces of a slice in memory -/
def PcsAt (ao : Option Addr) (l : List Pn.Pc) (P : Nat) (w : World) : Prop :=
  ∀ i p, l[i]? = some p → ∃ g o, ao = some ⟨g, o, none⟩ ∧ g < w.heap.size ∧ g ≠ P ∧ p.2.length ≤ 2000 ∧ w.cell? ⟨g, o + i * 2, none⟩ = some (.int .i64 p.1) ∧ w.cell? ⟨g, o + i * 2 + 1, none⟩ = some (.string ⟨p.2.toArray⟩)
theorem PcsAt.keeps {ao : Option Addr} {l : List Pn.Pc} {P : Nat} {w w' : World} (h : PcsAt ao l P w) (hk : Keeps P none w w') : PcsAt ao l P w' := fun i p hi => by
  obtain ⟨g, o, h1, h2, h3, h4, h5, h6⟩ := h i p hi
  have e := hk.block g h2 h3 (by simp)
  exact ⟨g, o, h1, Nat.lt_of_lt_of_le h2 hk.size, h3, h4, (World.cell?_of_block (a := ⟨g, _, none⟩) e).trans h5, (World.cell?_of_block (a := ⟨g, _, none⟩) e).trans h6⟩
theorem Env.keeps {P : Nat} {w w' : World} (h : Env w) (hk : Keeps P none w w') (hP : 8 ≤ P) : Env w' :=
  h.below (hk.below (Below.refl 8 w) hP (fun _ h => by cases h) h.1) (Nat.le_refl _)
theorem pshape_len : ∀ (F : List UInt8) (l : List Pn.Pc) (i : Pn.Ins) (tg : List UInt8), l.length ≠ F.length → Pn.pshape F l i tg = none
  | [], [], _, _, h => by simp at h
  | [], p :: l, _, _, _ => by simp [Pn.pshape]
  | r :: F, [], _, _, _ => by simp [Pn.pshape]
  | r :: F, (k, t) :: l, i, tg, h => by
    simp only [Pn.pshape]
    cases Pn.pstep r k t i tg with
    | none => rfl
    | some s => exact pshape_len F l s.1 s.2 (by simpa using h)
def ShRel (S : ByteArray) (l : List Pn.Pc) (i : Pn.Ins) (tg : List UInt8) (P : Nat) (w wr : World) : Prop :=
  ∃ (j : Nat) (i' : Pn.Ins) (tg' : List UInt8), j ≤ S.size ∧ wr.heap[w.heap.size]? = some (.stringIter S j) ∧ CellsAt P (Pn.partCells i' tg') wr ∧ Keeps P none w wr ∧
    Hid (Pn.pshape S.data.toList l i tg = Pn.pshape (S.data.toList.drop j) (l.drop j) i' tg')
theorem iter_keeps {P it : Nat} {w wr : World} (h : Keeps P none w wr) (hit : w.heap.size ≤ it) (S : ByteArray) (p : Nat) : Keeps P none w (wr.iterAt it S p) :=
  ⟨h.os, h.tape, h.output, by rw [Lib.iterAt_size]; exact h.size, fun b hb h1 h2 => (Lib.iterAt_other wr it b S p (by omega)).trans (h.block b hb h1 h2)⟩

set_option maxRecDepth 100000 in
set_option maxHeartbeats 8000000 in
theorem readShape_is (S : ByteArray) (hS : ∀ r ∈ S.data.toList, Pn.Lett r) (hSz : S.size ≤ 6) (P : Nat) (i : Pn.Ins) (tg : List UInt8) (l : List Pn.Pc) (ao : Option Addr) (cp : Nat) (w : World) (hE : Env w) (hP : 8 ≤ P)
    (hC : CellsAt P (Pn.partCells i tg) w) (hl : PcsAt ao l P w) :
    Calls Tryz.prog 190 #[.pointer (some ⟨P, 0, none⟩), .string S, .slice ao l.length cp] w fun e w' => PieceOut P (Pn.pshape S.data.toList l i tg) w e w' := by
  have HE := hide hE
  have HC := hide hC
  have HL := hide hl
  have hPw := hC.1
  clear hE hC hl
  by_cases hne : ((l.length : Int) != (S.size : Int)) = true
  · have HN : Hid (Pn.pshape S.data.toList l i tg = none) := pshape_len _ _ _ _ (by
      have e : S.data.toList.length = S.size := by simp
      have : ¬ (l.length : Int) = S.size := by simpa using hne
      omega)
    go_enter Tryz.func190, Tryz.ntmps190
    go_wp2_with fail
    go_ret
    exact ⟨by rw [HN.out]; rfl, Keeps.refl _ _ _, fun s h => by rw [HN.out] at h; cases h⟩
  · have hne' : ((l.length : Int) != (S.size : Int)) = false := by simpa using hne
    have hle : l.length = S.size := by
      have : (l.length : Int) = S.size := by simpa using hne'
      omega
    clear hne
    go_enter Tryz.func190, Tryz.ntmps190
    go_wp2_with fail
    go_loopw [] (fun wr => ShRel S l i tg P w wr) (fun wr => S.size - wr.iterPos w.heap.size)
    case atStart => exact ⟨0, i, tg, by omega, World.iter_heap w S 0, CellsAt.alloc HC.out _, Keeps.of_below ((Below.refl _ _).alloc (Nat.le_refl _) _), rfl⟩
    case round =>
      obtain ⟨j, i', tg', hj, hit, hC', hK, HM⟩ := hrel
      by_cases hlt : j < S.size
      · have hrl : Pn.Lett (S[j]'hlt) := hS _ (by show S.data[j] ∈ S.data.toList; exact Array.mem_toList_iff.2 (Array.getElem_mem _))
        have hasc : (S[j]'hlt).toNat < 128 := by rcases hrl with h | h | h | h | h | h | h | h <;> (rw [h]; decide)
        have hnx : ∀ ty, (Instr.next (.pointer (some ⟨w.heap.size, 0, none⟩)) true ty).run Tryz.prog wr = .ok (.tuple #[.bool true, .int .i64 j, .int .i32 (S[j]'hlt).toNat]) (wr.iterAt w.heap.size S (j + 1)) := fun ty =>
          Lib.run_next_ascii_at wr w.heap.size S j ty hit hlt hasc
        have hjl : j < l.length := by omega
        have hlt2 : (j : Int) < (l.length : Int) := by omega
        obtain ⟨⟨k, t⟩, hpj⟩ : ∃ p, l[j]? = some p := ⟨_, List.getElem?_eq_getElem hjl⟩
        have HDS : Hid (S.data.toList.drop j = (S[j]'hlt) :: S.data.toList.drop (j + 1)) := by
          show _ = _
          rw [List.drop_eq_getElem_cons (by simpa using hlt)]; rfl
        have HDL : Hid (l.drop j = (k, t) :: l.drop (j + 1)) := by
          show _ = _
          rw [List.drop_eq_getElem_cons hjl]
          congr 1
          rw [List.getElem?_eq_getElem hjl] at hpj
          exact Option.some.inj hpj
        have hKi := iter_keeps hK (Nat.le_refl _) S (j + 1)
        have hCi : CellsAt P (Pn.partCells i' tg') (wr.iterAt w.heap.size S (j + 1)) := CellsAt.step hC' (iter_below wr w.heap.size S (j + 1)) hPw
        obtain ⟨g, o, hao, hg1, hg2, htl, c0, c1⟩ := PcsAt.keeps HL.out hKi j (k, t) hpj
        have hEi : Env (wr.iterAt w.heap.size S (j + 1)) := Env.keeps HE.out hKi hP
        have HIT : Hid ((wr.iterAt w.heap.size S (j + 1)).heap[w.heap.size]? = some (.stringIter S (j + 1))) := Lib.iterAt_heap wr _ S j (j + 1) hit
        have HIT0 := hide hit
        have HKi := hide hKi
        have HCi := hide hCi
        subst hao
        simp only at htl c0 c1
        have htb : (ByteArray.mk t.toArray).size ≤ 2000 := by simpa [ByteArray.size] using htl
        clear hit hC' hK hKi hCi
        generalize wr.iterAt w.heap.size S (j + 1) = W at *
        go_wp2_with fail
        refine (readPiece_is _ hrl P i' tg' k ⟨t.toArray⟩ W htb hEi HCi.out).mono ?_
        rintro e w3 ⟨rfl, hK3, hS3⟩
        have HK3 := hide hK3
        have hdt : (ByteArray.mk t.toArray).data.toList = t := by simp
        rw [hdt] at hS3 ⊢
        have HS3 := hide hS3
        have hit3 : w3.heap[w.heap.size]? = some (.stringIter S (j + 1)) := (hK3.block _ (Array.getElem?_eq_some_iff.1 HIT.out).1 (by omega) (by simp)).trans HIT.out
        have HIT3 := hide hit3
        have HKK := hide (HKi.out.trans hK3)
        clear hK3 hS3 c0 c1 hnx hEi hit3
        cases hps : Pn.pstep (S[j]'hlt) k t i' tg' with
        | none =>
          have HN : Hid (Pn.pshape S.data.toList l i tg = none) := by
            show _ = _
            rw [HM.out, HDS.out, HDL.out]
            simp only [Pn.pshape]
            rw [hps]; rfl
          simp only [Option.isSome]
          go_wp2_with fail
          go_ret
          exact ⟨by rw [HN.out]; rfl, HKK.out, fun s h => by rw [HN.out] at h; cases h⟩
        | some s =>
          have HS4 := hide (HS3.out s hps)
          have HPS := hide hps
          clear HS3 hps
          simp only [Option.isSome]
          go_wp2_with fail
          go_roundw
          case rel =>
            refine ⟨j + 1, s.1, s.2, by omega, HIT3.out, HS4.out, HKK.out, ?_⟩
            show _ = _
            rw [HM.out, HDS.out, HDL.out]
            simp only [Pn.pshape]
            rw [HPS.out]; rfl
          case measure =>
            simp [World.iterPos, HIT3.out, HIT0.out]
            omega
      · have hje : j = S.size := by omega
        have hnx : ∀ ty, (Instr.next (.pointer (some ⟨w.heap.size, 0, none⟩)) true ty).run Tryz.prog wr = .ok (.tuple #[.bool false]) wr := fun ty =>
          Lib.run_next_end_at wr w.heap.size S j ty hit hlt
        have HN : Hid (Pn.pshape S.data.toList l i tg = some (i', tg')) := by
          show _ = _
          rw [HM.out, List.drop_eq_nil_of_le (by simp; omega), List.drop_eq_nil_of_le (by omega)]
          rfl
        have HK := hide hK
        have HC2 := hide hC'
        clear hC' hK hit
        go_wp2_with fail
        go_ret
        exact ⟨by rw [HN.out]; rfl, HK.out, fun s h => by rw [HN.out] at h; cases h; exact HC2.out⟩
end Go.Proofs.YtbmcofdodfcnnaaGreatDoor
