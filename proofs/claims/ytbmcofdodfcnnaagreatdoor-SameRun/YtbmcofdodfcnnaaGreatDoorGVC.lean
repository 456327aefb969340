import Derived.Test.YtbmcofdodfcnnaaGreatDoorGV13
import Derived.Test.YtbmcofdodfcnnaaGreatDoorGQ
namespace Go.Proofs.YtbmcofdodfcnnaaGreatDoor
open Go.RowKit
def PieceOut (P : Nat) (o : Option (Pn.Ins × List UInt8)) (w : World) (e : Ending) (w' : World) : Prop :=
  e = .returned (.bool o.isSome) ∧ Keeps P none w w' ∧ ∀ s, o = some s → CellsAt P (Pn.partCells s.1 s.2) w'
set_option maxHeartbeats 2000000 in
theorem readPiece_d (P : Nat) (i : Pn.Ins) (tg : List UInt8) (k : Int) (t : ByteArray) (w : World) (ht : t.size ≤ 2000) (hE : Env w) (hC : CellsAt P (Pn.partCells i tg) w) :
    Calls Tryz.prog 223 #[.pointer (some ⟨P, 0, none⟩), .int .i32 100, .agg #[.int .i64 k, .string t]] w fun e w' => PieceOut P (Pn.pstep 100 k t.data.toList i tg) w e w' := by
  have HE := hide (fun o => hE.alloc o)
  have HC := hide hC
  go_enter Tryz.func223, Tryz.ntmps223
  go_wp2_with fail
  refine (readRegister_is k t _ ht (HE.out _)).mono ?_
  rintro e w1 ⟨rfl, hB⟩
  have HB := hide (((Below.refl w.heap.size w).alloc (Nat.le_refl _) _).trans (hB.mono (by simp)))
  have HC1 := hide (CellsAt.next HC.out HB.out)
  obtain ⟨hz, yf, yc⟩ := HC1.out
  have y2 := yc 2 _ rfl
  clear hB yc
  have HS : Hid (Pn.pstep 100 k t.data.toList i tg = (Pn.preg t.data.toList).map fun n => ({ i with rd := n }, tg)) := rfl
  generalize Pn.preg t.data.toList = q at *
  go_wp2_with fail
  go_ret
  refine ⟨?_, (Keeps.of_below HB.out).trans (Keeps.setCell P none _ _ _), fun s hs => ?_⟩
  · rw [HS.out]; cases q <;> rfl
  · rw [HS.out] at hs
    cases q with
    | none => cases hs
    | some n => cases hs; exact CellsAt.set HC1.out 2 _ (by simp [Pn.partCells])
set_option maxHeartbeats 2000000 in
theorem readPiece_s (P : Nat) (i : Pn.Ins) (tg : List UInt8) (k : Int) (t : ByteArray) (w : World) (ht : t.size ≤ 2000) (hE : Env w) (hC : CellsAt P (Pn.partCells i tg) w) :
    Calls Tryz.prog 223 #[.pointer (some ⟨P, 0, none⟩), .int .i32 115, .agg #[.int .i64 k, .string t]] w fun e w' => PieceOut P (Pn.pstep 115 k t.data.toList i tg) w e w' := by
  have HE := hide (fun o => hE.alloc o)
  have HC := hide hC
  go_enter Tryz.func223, Tryz.ntmps223
  go_wp2_with fail
  refine (readRegister_is k t _ ht (HE.out _)).mono ?_
  rintro e w1 ⟨rfl, hB⟩
  have HB := hide (((Below.refl w.heap.size w).alloc (Nat.le_refl _) _).trans (hB.mono (by simp)))
  have HC1 := hide (CellsAt.next HC.out HB.out)
  obtain ⟨hz, yf, yc⟩ := HC1.out
  have y2 := yc 3 _ rfl
  clear hB yc
  have HS : Hid (Pn.pstep 115 k t.data.toList i tg = (Pn.preg t.data.toList).map fun n => ({ i with rs1 := n }, tg)) := rfl
  generalize Pn.preg t.data.toList = q at *
  go_wp2_with fail
  go_ret
  refine ⟨?_, (Keeps.of_below HB.out).trans (Keeps.setCell P none _ _ _), fun s hs => ?_⟩
  · rw [HS.out]; cases q <;> rfl
  · rw [HS.out] at hs
    cases q with
    | none => cases hs
    | some n => cases hs; exact CellsAt.set HC1.out 3 _ (by simp [Pn.partCells])
set_option maxHeartbeats 2000000 in
theorem readPiece_t (P : Nat) (i : Pn.Ins) (tg : List UInt8) (k : Int) (t : ByteArray) (w : World) (ht : t.size ≤ 2000) (hE : Env w) (hC : CellsAt P (Pn.partCells i tg) w) :
    Calls Tryz.prog 223 #[.pointer (some ⟨P, 0, none⟩), .int .i32 116, .agg #[.int .i64 k, .string t]] w fun e w' => PieceOut P (Pn.pstep 116 k t.data.toList i tg) w e w' := by
  have HE := hide (fun o => hE.alloc o)
  have HC := hide hC
  go_enter Tryz.func223, Tryz.ntmps223
  go_wp2_with fail
  refine (readRegister_is k t _ ht (HE.out _)).mono ?_
  rintro e w1 ⟨rfl, hB⟩
  have HB := hide (((Below.refl w.heap.size w).alloc (Nat.le_refl _) _).trans (hB.mono (by simp)))
  have HC1 := hide (CellsAt.next HC.out HB.out)
  obtain ⟨hz, yf, yc⟩ := HC1.out
  have y2 := yc 4 _ rfl
  clear hB yc
  have HS : Hid (Pn.pstep 116 k t.data.toList i tg = (Pn.preg t.data.toList).map fun n => ({ i with rs2 := n }, tg)) := rfl
  generalize Pn.preg t.data.toList = q at *
  go_wp2_with fail
  go_ret
  refine ⟨?_, (Keeps.of_below HB.out).trans (Keeps.setCell P none _ _ _), fun s hs => ?_⟩
  · rw [HS.out]; cases q <;> rfl
  · rw [HS.out] at hs
    cases q with
    | none => cases hs
    | some n => cases hs; exact CellsAt.set HC1.out 4 _ (by simp [Pn.partCells])
set_option maxHeartbeats 2000000 in
theorem readPiece_i (P : Nat) (i : Pn.Ins) (tg : List UInt8) (k : Int) (t : ByteArray) (w : World) (ht : t.size ≤ 2000) (hE : Env w) (hC : CellsAt P (Pn.partCells i tg) w) :
    Calls Tryz.prog 223 #[.pointer (some ⟨P, 0, none⟩), .int .i32 105, .agg #[.int .i64 k, .string t]] w fun e w' => PieceOut P (Pn.pstep 105 k t.data.toList i tg) w e w' := by
  have HE := hide (fun o => hE.alloc o)
  have HC := hide hC
  go_enter Tryz.func223, Tryz.ntmps223
  go_wp2_with fail
  have HS : Hid (Pn.pstep 105 k t.data.toList i tg = (Pn.pnum k t.data.toList).map fun n => ({ i with imm := n }, tg)) := rfl
  refine (readNumber_is k t _ ht (HE.out _)).mono ?_
  rintro e w1 ⟨n, rfl, hn, hB⟩
  have HB := hide (((Below.refl w.heap.size w).alloc (Nat.le_refl _) _).trans (hB.mono (by simp)))
  have HC1 := hide (CellsAt.next HC.out HB.out)
  obtain ⟨hz, yf, yc⟩ := HC1.out
  have y2 := yc 5 _ rfl
  have HN := hide hn
  clear hB yc hn
  generalize Pn.pnum k t.data.toList = q at *
  go_wp2_with fail
  go_ret
  refine ⟨?_, (Keeps.of_below HB.out).trans (Keeps.setCell P none _ _ _), fun s hs => ?_⟩
  · rw [HS.out]; cases q <;> rfl
  · rw [HS.out] at hs
    cases q with
    | none => cases hs
    | some v => cases hs; have := HN.out v rfl; subst this; exact CellsAt.set HC1.out 5 _ (by simp [Pn.partCells])
set_option maxHeartbeats 2000000 in
theorem readPiece_p0 (P : Nat) (i : Pn.Ins) (tg : List UInt8) (k : Int) (t : ByteArray) (w : World) (ht : t.size ≤ 2000) (hE : Env w) (hC : CellsAt P (Pn.partCells i tg) w) (hn : Pn.isNm k t.data.toList = false) :
    Calls Tryz.prog 223 #[.pointer (some ⟨P, 0, none⟩), .int .i32 112, .agg #[.int .i64 k, .string t]] w fun e w' => PieceOut P (Pn.pstep 112 k t.data.toList i tg) w e w' := by
  have HE := hide (fun o => hE.alloc o)
  have HC := hide hC
  go_enter Tryz.func223, Tryz.ntmps223
  go_wp2_with fail
  have HS : Hid (Pn.pstep 112 k t.data.toList i tg = (Pn.pnum k t.data.toList).map fun n => ({ i with imm := n }, tg)) := by show (if Pn.isNm k t.data.toList then some (i, t.data.toList) else _) = _; rw [hn]; rfl
  refine (isName_is k t _ ht).mono ?_
  rintro e w0 ⟨rfl, hB0⟩
  rw [hn]
  have hx := (CellsAt.new w [.int .i64 k, .string t] 131).next hB0
  have x0 := hx.2.2 0 _ rfl
  have x1 := hx.2.2 1 _ rfl
  have HB0 := hide hB0
  have HE0 : Hid (Env w0) := Env.below (HE.out _) hB0 (HE.out _).1
  clear hB0 hx
  go_wp2_with fail
  refine (readNumber_is k t _ ht HE0.out).mono ?_
  rintro e w1 ⟨n, rfl, hn', hB⟩
  have HB := hide ((((Below.refl w.heap.size w).alloc (Nat.le_refl _) _).trans (HB0.out.mono (by simp))).trans (hB.mono (by have := HB0.out.size; simp at this; omega)))
  have HC1 := hide (CellsAt.next HC.out HB.out)
  obtain ⟨hz, yf, yc⟩ := HC1.out
  have y2 := yc 5 _ rfl
  have HN := hide hn'
  clear hB yc hn'
  generalize Pn.pnum k t.data.toList = q at *
  go_wp2_with fail
  go_ret
  refine ⟨?_, (Keeps.of_below HB.out).trans (Keeps.setCell P none _ _ _), fun s hs => ?_⟩
  · rw [HS.out]; cases q <;> rfl
  · rw [HS.out] at hs
    cases q with
    | none => cases hs
    | some v => cases hs; have := HN.out v rfl; subst this; exact CellsAt.set HC1.out 5 _ (by simp [Pn.partCells])
set_option maxHeartbeats 2000000 in
theorem readPiece_p1 (P : Nat) (i : Pn.Ins) (tg : List UInt8) (k : Int) (t : ByteArray) (w : World) (ht : t.size ≤ 2000) (hC : CellsAt P (Pn.partCells i tg) w) (hn : Pn.isNm k t.data.toList = true) :
    Calls Tryz.prog 223 #[.pointer (some ⟨P, 0, none⟩), .int .i32 112, .agg #[.int .i64 k, .string t]] w fun e w' => PieceOut P (Pn.pstep 112 k t.data.toList i tg) w e w' := by
  have HC := hide hC
  have HS : Hid (Pn.pstep 112 k t.data.toList i tg = some (i, t.data.toList)) := by show (if Pn.isNm k t.data.toList then some (i, t.data.toList) else _) = _; rw [hn]; rfl
  go_enter Tryz.func223, Tryz.ntmps223
  go_wp2_with fail
  refine (isName_is k t _ ht).mono ?_
  rintro e w0 ⟨rfl, hB0⟩
  rw [hn]
  have hx := (CellsAt.new w [.int .i64 k, .string t] 131).next hB0
  have x0 := hx.2.2 0 _ rfl
  have x1 := hx.2.2 1 _ rfl
  have HB0 := hide (((Below.refl w.heap.size w).alloc (Nat.le_refl _) _).trans (hB0.mono (by simp)))
  have HC1 := hide (CellsAt.next HC.out HB0.out)
  obtain ⟨hz, yf, yc⟩ := HC1.out
  have y2 := yc 6 _ rfl
  clear hB0 hx yc
  go_wp2_with fail
  go_ret
  refine ⟨by rw [HS.out]; rfl, (Keeps.of_below HB0.out).trans (Keeps.setCell P none _ _ _), fun s hs => ?_⟩
  rw [HS.out] at hs
  cases hs
  exact CellsAt.set HC1.out 6 _ (by simp [Pn.partCells])
theorem readPiece_44 (P : Nat) (i : Pn.Ins) (tg : List UInt8) (k : Int) (t : ByteArray) (w : World) (hC : CellsAt P (Pn.partCells i tg) w) :
    Calls Tryz.prog 223 #[.pointer (some ⟨P, 0, none⟩), .int .i32 44, .agg #[.int .i64 k, .string t]] w fun e w' => PieceOut P (Pn.pstep 44 k t.data.toList i tg) w e w' := by
  have HC := hide hC
  have HS : Hid (Pn.pstep 44 k t.data.toList i tg = if t.data.toList = [44] then some (i, tg) else none) := rfl
  go_enter Tryz.func223, Tryz.ntmps223
  go_wp2_with fail
  go_ret
  have hB : Below w.heap.size w (w.alloc (.cells #[.int .i64 k, .string t] 131)) := (Below.refl _ _).alloc (Nat.le_refl _) _
  refine ⟨?_, Keeps.of_below hB, fun s hs => ?_⟩
  · rw [HS.out]
    refine ret_val (congrArg Value.bool ?_)
    have hen : Utf8.encode 44 = ⟨#[44]⟩ := by rfl
    by_cases h : t.data.toList = [44]
    · rw [if_pos h]; show (t.toList == (Utf8.encode 44).toList) = true
      rw [hen, ByteArray.toList_eq, ByteArray.toList_eq, h]; rfl
    · rw [if_neg h]; show (t.toList == (Utf8.encode 44).toList) = false
      rw [hen, ByteArray.toList_eq, ByteArray.toList_eq]; exact beq_false_of_ne h
  · rw [HS.out] at hs
    split at hs
    · cases hs; exact CellsAt.next HC.out hB
    · cases hs
theorem readPiece_40 (P : Nat) (i : Pn.Ins) (tg : List UInt8) (k : Int) (t : ByteArray) (w : World) (hC : CellsAt P (Pn.partCells i tg) w) :
    Calls Tryz.prog 223 #[.pointer (some ⟨P, 0, none⟩), .int .i32 40, .agg #[.int .i64 k, .string t]] w fun e w' => PieceOut P (Pn.pstep 40 k t.data.toList i tg) w e w' := by
  have HC := hide hC
  have HS : Hid (Pn.pstep 40 k t.data.toList i tg = if t.data.toList = [40] then some (i, tg) else none) := rfl
  go_enter Tryz.func223, Tryz.ntmps223
  go_wp2_with fail
  go_ret
  have hB : Below w.heap.size w (w.alloc (.cells #[.int .i64 k, .string t] 131)) := (Below.refl _ _).alloc (Nat.le_refl _) _
  refine ⟨?_, Keeps.of_below hB, fun s hs => ?_⟩
  · rw [HS.out]
    refine ret_val (congrArg Value.bool ?_)
    have hen : Utf8.encode 40 = ⟨#[40]⟩ := by rfl
    by_cases h : t.data.toList = [40]
    · rw [if_pos h]; show (t.toList == (Utf8.encode 40).toList) = true
      rw [hen, ByteArray.toList_eq, ByteArray.toList_eq, h]; rfl
    · rw [if_neg h]; show (t.toList == (Utf8.encode 40).toList) = false
      rw [hen, ByteArray.toList_eq, ByteArray.toList_eq]; exact beq_false_of_ne h
  · rw [HS.out] at hs
    split at hs
    · cases hs; exact CellsAt.next HC.out hB
    · cases hs
theorem readPiece_41 (P : Nat) (i : Pn.Ins) (tg : List UInt8) (k : Int) (t : ByteArray) (w : World) (hC : CellsAt P (Pn.partCells i tg) w) :
    Calls Tryz.prog 223 #[.pointer (some ⟨P, 0, none⟩), .int .i32 41, .agg #[.int .i64 k, .string t]] w fun e w' => PieceOut P (Pn.pstep 41 k t.data.toList i tg) w e w' := by
  have HC := hide hC
  have HS : Hid (Pn.pstep 41 k t.data.toList i tg = if t.data.toList = [41] then some (i, tg) else none) := rfl
  go_enter Tryz.func223, Tryz.ntmps223
  go_wp2_with fail
  go_ret
  have hB : Below w.heap.size w (w.alloc (.cells #[.int .i64 k, .string t] 131)) := (Below.refl _ _).alloc (Nat.le_refl _) _
  refine ⟨?_, Keeps.of_below hB, fun s hs => ?_⟩
  · rw [HS.out]
    refine ret_val (congrArg Value.bool ?_)
    have hen : Utf8.encode 41 = ⟨#[41]⟩ := by rfl
    by_cases h : t.data.toList = [41]
    · rw [if_pos h]; show (t.toList == (Utf8.encode 41).toList) = true
      rw [hen, ByteArray.toList_eq, ByteArray.toList_eq, h]; rfl
    · rw [if_neg h]; show (t.toList == (Utf8.encode 41).toList) = false
      rw [hen, ByteArray.toList_eq, ByteArray.toList_eq]; exact beq_false_of_ne h
  · rw [HS.out] at hs
    split at hs
    · cases hs; exact CellsAt.next HC.out hB
    · cases hs
theorem readPiece_is (r : UInt8) (hr : Pn.Lett r) (P : Nat) (i : Pn.Ins) (tg : List UInt8) (k : Int) (t : ByteArray) (w : World) (ht : t.size ≤ 2000) (hE : Env w) (hC : CellsAt P (Pn.partCells i tg) w) :
    Calls Tryz.prog 223 #[.pointer (some ⟨P, 0, none⟩), .int .i32 r.toNat, .agg #[.int .i64 k, .string t]] w fun e w' => PieceOut P (Pn.pstep r k t.data.toList i tg) w e w' := by
  rcases hr with rfl | rfl | rfl | rfl | rfl | rfl | rfl | rfl
  · exact readPiece_d P i tg k t w ht hE hC
  · exact readPiece_s P i tg k t w ht hE hC
  · exact readPiece_t P i tg k t w ht hE hC
  · exact readPiece_i P i tg k t w ht hE hC
  · by_cases h : Pn.isNm k t.data.toList = true
    · exact readPiece_p1 P i tg k t w ht hC h
    · exact readPiece_p0 P i tg k t w ht hE hC (by simpa using h)
  · exact readPiece_44 P i tg k t w hC
  · exact readPiece_40 P i tg k t w hC
  · exact readPiece_41 P i tg k t w hC
end Go.Proofs.YtbmcofdodfcnnaaGreatDoor
namespace Go.Proofs.YtbmcofdodfcnnaaGreatDoor
open Go.RowKit
def PcsAt (ao : Option Addr) (l : List Pn.Pc) (P : Nat) (w : World) : Prop :=
  ∀ i p, l[i]? = some p → ∃ g o, ao = some ⟨g, o, none⟩ ∧ g < w.heap.size ∧ g ≠ P ∧ p.2.length ≤ 2000 ∧ w.cell? ⟨g, o + i * 2, none⟩ = some (.int .i64 p.1) ∧ w.cell? ⟨g, o + i * 2 + 1, none⟩ = some (.string ⟨p.2.toArray⟩)
theorem PcsAt.keeps {ao : Option Addr} {l : List Pn.Pc} {P : Nat} {w w' : World} (h : PcsAt ao l P w) (hk : Keeps P none w w') : PcsAt ao l P w' := fun i p hi => by
  obtain ⟨g, o, h1, h2, h3, h4, h5, h6⟩ := h i p hi
  have e := hk.block g h2 h3 (by simp)
  exact ⟨g, o, h1, Nat.lt_of_lt_of_le h2 hk.size, h3, h4, (World.cell?_of_block (a := ⟨g, _, none⟩) e).trans h5, (World.cell?_of_block (a := ⟨g, _, none⟩) e).trans h6⟩
theorem Env.keeps {P : Nat} {w w' : World} (h : Env w) (hk : Keeps P none w w') (hP : 8 ≤ P) : Env w' :=
  h.below (hk.below (Below.refl 8 w) hP (fun _ h => by cases h) h.1) (Nat.le_refl _)
theorem pshape_len : ∀ (F : List UInt8) (l : List Pn.Pc) (i : Pn.Ins) (tg : List UInt8), l.length ≠ F.length → Pn.pshape F l i tg = none
  | [], [], _, _, h => by simp at h
  | [], p :: l, _, _, _ => by simp [Pn.pshape]
  | r :: F, [], _, _, _ => by simp [Pn.pshape]
  | r :: F, (k, t) :: l, i, tg, h => by
    simp only [Pn.pshape]
    cases Pn.pstep r k t i tg with
    | none => rfl
    | some s => exact pshape_len F l s.1 s.2 (by simpa using h)
def ShRel (S : ByteArray) (l : List Pn.Pc) (i : Pn.Ins) (tg : List UInt8) (P : Nat) (w wr : World) : Prop :=
  ∃ (j : Nat) (i' : Pn.Ins) (tg' : List UInt8), j ≤ S.size ∧ wr.heap[w.heap.size]? = some (.stringIter S j) ∧ CellsAt P (Pn.partCells i' tg') wr ∧ Keeps P none w wr ∧
    Hid (Pn.pshape S.data.toList l i tg = Pn.pshape (S.data.toList.drop j) (l.drop j) i' tg')
theorem iter_keeps {P it : Nat} {w wr : World} (h : Keeps P none w wr) (hit : w.heap.size ≤ it) (S : ByteArray) (p : Nat) : Keeps P none w (wr.iterAt it S p) :=
  ⟨h.os, h.tape, h.output, by rw [Lib.iterAt_size]; exact h.size, fun b hb h1 h2 => (Lib.iterAt_other wr it b S p (by omega)).trans (h.block b hb h1 h2)⟩
set_option maxRecDepth 100000 in
set_option maxHeartbeats 8000000 in
theorem readShape_is (S : ByteArray) (hS : ∀ r ∈ S.data.toList, Pn.Lett r) (hSz : S.size ≤ 6) (P : Nat) (i : Pn.Ins) (tg : List UInt8) (l : List Pn.Pc) (ao : Option Addr) (cp : Nat) (w : World) (hE : Env w) (hP : 8 ≤ P)
    (hC : CellsAt P (Pn.partCells i tg) w) (hl : PcsAt ao l P w) :
    Calls Tryz.prog 190 #[.pointer (some ⟨P, 0, none⟩), .string S, .slice ao l.length cp] w fun e w' => PieceOut P (Pn.pshape S.data.toList l i tg) w e w' := by
  have HE := hide hE
  have HC := hide hC
  have HL := hide hl
  have hPw := hC.1
  clear hE hC hl
  by_cases hne : ((l.length : Int) != (S.size : Int)) = true
  · have HN : Hid (Pn.pshape S.data.toList l i tg = none) := pshape_len _ _ _ _ (by
      have e : S.data.toList.length = S.size := by simp
      have : ¬ (l.length : Int) = S.size := by simpa using hne
      omega)
    go_enter Tryz.func190, Tryz.ntmps190
    go_wp2_with fail
    go_ret
    exact ⟨by rw [HN.out]; rfl, Keeps.refl _ _ _, fun s h => by rw [HN.out] at h; cases h⟩
  · have hne' : ((l.length : Int) != (S.size : Int)) = false := by simpa using hne
    have hle : l.length = S.size := by
      have : (l.length : Int) = S.size := by simpa using hne'
      omega
    clear hne
    go_enter Tryz.func190, Tryz.ntmps190
    go_wp2_with fail
    go_loopw [] (fun wr => ShRel S l i tg P w wr) (fun wr => S.size - wr.iterPos w.heap.size)
    case atStart => exact ⟨0, i, tg, by omega, World.iter_heap w S 0, CellsAt.alloc HC.out _, Keeps.of_below ((Below.refl _ _).alloc (Nat.le_refl _) _), rfl⟩
    case round =>
      obtain ⟨j, i', tg', hj, hit, hC', hK, HM⟩ := hrel
      by_cases hlt : j < S.size
      · have hrl : Pn.Lett (S[j]'hlt) := hS _ (by show S.data[j] ∈ S.data.toList; exact Array.mem_toList_iff.2 (Array.getElem_mem _))
        have hasc : (S[j]'hlt).toNat < 128 := by rcases hrl with h | h | h | h | h | h | h | h <;> (rw [h]; decide)
        have hnx : ∀ ty, (Instr.next (.pointer (some ⟨w.heap.size, 0, none⟩)) true ty).run Tryz.prog wr = .ok (.tuple #[.bool true, .int .i64 j, .int .i32 (S[j]'hlt).toNat]) (wr.iterAt w.heap.size S (j + 1)) := fun ty =>
          Lib.run_next_ascii_at wr w.heap.size S j ty hit hlt hasc
        have hjl : j < l.length := by omega
        have hlt2 : (j : Int) < (l.length : Int) := by omega
        obtain ⟨⟨k, t⟩, hpj⟩ : ∃ p, l[j]? = some p := ⟨_, List.getElem?_eq_getElem hjl⟩
        have HDS : Hid (S.data.toList.drop j = (S[j]'hlt) :: S.data.toList.drop (j + 1)) := by
          show _ = _
          rw [List.drop_eq_getElem_cons (by simpa using hlt)]; rfl
        have HDL : Hid (l.drop j = (k, t) :: l.drop (j + 1)) := by
          show _ = _
          rw [List.drop_eq_getElem_cons hjl]
          congr 1
          rw [List.getElem?_eq_getElem hjl] at hpj
          exact Option.some.inj hpj
        have hKi := iter_keeps hK (Nat.le_refl _) S (j + 1)
        have hCi : CellsAt P (Pn.partCells i' tg') (wr.iterAt w.heap.size S (j + 1)) := CellsAt.step hC' (iter_below wr w.heap.size S (j + 1)) hPw
        obtain ⟨g, o, hao, hg1, hg2, htl, c0, c1⟩ := PcsAt.keeps HL.out hKi j (k, t) hpj
        have hEi : Env (wr.iterAt w.heap.size S (j + 1)) := Env.keeps HE.out hKi hP
        have HIT : Hid ((wr.iterAt w.heap.size S (j + 1)).heap[w.heap.size]? = some (.stringIter S (j + 1))) := Lib.iterAt_heap wr _ S j (j + 1) hit
        have HIT0 := hide hit
        have HKi := hide hKi
        have HCi := hide hCi
        subst hao
        simp only at htl c0 c1
        have htb : (ByteArray.mk t.toArray).size ≤ 2000 := by simpa [ByteArray.size] using htl
        clear hit hC' hK hKi hCi
        generalize wr.iterAt w.heap.size S (j + 1) = W at *
        go_wp2_with fail
        refine (readPiece_is _ hrl P i' tg' k ⟨t.toArray⟩ W htb hEi HCi.out).mono ?_
        rintro e w3 ⟨rfl, hK3, hS3⟩
        have HK3 := hide hK3
        have hdt : (ByteArray.mk t.toArray).data.toList = t := by simp
        rw [hdt] at hS3 ⊢
        have HS3 := hide hS3
        have hit3 : w3.heap[w.heap.size]? = some (.stringIter S (j + 1)) := (hK3.block _ (Array.getElem?_eq_some_iff.1 HIT.out).1 (by omega) (by simp)).trans HIT.out
        have HIT3 := hide hit3
        have HKK := hide (HKi.out.trans hK3)
        clear hK3 hS3 c0 c1 hnx hEi hit3
        cases hps : Pn.pstep (S[j]'hlt) k t i' tg' with
        | none =>
          have HN : Hid (Pn.pshape S.data.toList l i tg = none) := by
            show _ = _
            rw [HM.out, HDS.out, HDL.out]
            simp only [Pn.pshape]
            rw [hps]; rfl
          simp only [Option.isSome]
          go_wp2_with fail
          go_ret
          exact ⟨by rw [HN.out]; rfl, HKK.out, fun s h => by rw [HN.out] at h; cases h⟩
        | some s =>
          have HS4 := hide (HS3.out s hps)
          have HPS := hide hps
          clear HS3 hps
          simp only [Option.isSome]
          go_wp2_with fail
          go_roundw
          case rel =>
            refine ⟨j + 1, s.1, s.2, by omega, HIT3.out, HS4.out, HKK.out, ?_⟩
            show _ = _
            rw [HM.out, HDS.out, HDL.out]
            simp only [Pn.pshape]
            rw [HPS.out]; rfl
          case measure =>
            simp [World.iterPos, HIT3.out, HIT0.out]
            omega
      · have hje : j = S.size := by omega
        have hnx : ∀ ty, (Instr.next (.pointer (some ⟨w.heap.size, 0, none⟩)) true ty).run Tryz.prog wr = .ok (.tuple #[.bool false]) wr := fun ty =>
          Lib.run_next_end_at wr w.heap.size S j ty hit hlt
        have HN : Hid (Pn.pshape S.data.toList l i tg = some (i', tg')) := by
          show _ = _
          rw [HM.out, List.drop_eq_nil_of_le (by simp; omega), List.drop_eq_nil_of_le (by omega)]
          rfl
        have HK := hide hK
        have HC2 := hide hC'
        clear hC' hK hit
        go_wp2_with fail
        go_ret
        exact ⟨by rw [HN.out]; rfl, HK.out, fun s h => by rw [HN.out] at h; cases h; exact HC2.out⟩
end Go.Proofs.YtbmcofdodfcnnaaGreatDoor
namespace Go.Proofs.YtbmcofdodfcnnaaGreatDoor
open Go.RowKit
set_option maxRecDepth 100000 in
set_option maxHeartbeats 4000000 in
theorem named_is (nm : ByteArray) (k : Nat) (w : World) (hk : k < 64) (hf : (List.range 64).find? (Pn.byName nm) = some k) :
    Calls Tryz.prog 189 #[.string nm] w fun e w' => e = .returned (.tuple #[(Pn.Ins.mk (k + 1) 0 0 0 0).val, .string ⟨(Pn.shp (Pn.row k).kind).toArray⟩, .bool true]) ∧ Below w.heap.size w w' := by
  have HF := hide hf
  go_enter Tryz.func189, Tryz.ntmps189
  go_wp2_with fail
  refine (Named_is nm _).mono ?_
  rintro e w1 ⟨rfl, hB1⟩
  rw [HF.out]
  have HZ := hide (CellsAt.alloc ((CellsAt.new w zI 26).next hB1) (.cells (Pn.irow k).toArray 100))
  have hz1 : w.heap.size < w1.heap.size := ((CellsAt.new w zI 26).next hB1).1
  have HB1 := hide (((Below.refl w.heap.size w).alloc (Nat.le_refl _) _).trans (hB1.mono (by simp)))
  have HR := hide (CellsAt.new w1 (Pn.irow k) 100)
  have HBW := hide (HB1.out.alloc HB1.out.size (.cells (Pn.irow k).toArray 100))
  clear hB1
  unfold findV Pn.irowV
  unfold Pn.irow at HZ HR HBW ⊢
  go_wp2_with fail
  have s0 := HR.out.2.2 0 _ rfl
  have s2 := HR.out.2.2 2 _ rfl
  obtain ⟨hz, yf, yc⟩ := HZ.out
  have y0 := yc 0 _ rfl
  have y1 := yc 1 _ rfl
  have y2 := yc 2 _ rfl
  have y3 := yc 3 _ rfl
  have y4 := yc 4 _ rfl
  have hne : w.heap.size ≠ w1.heap.size := by omega
  clear yc HZ HR
  generalize w1.alloc _ = W at *
  go_region_held3 (fun w' => w'.cell? ⟨w1.heap.size, 0, none⟩ = some (.int .i64 (k + 1)) ∧ w'.cell? ⟨w1.heap.size, 2, none⟩ = some (.int .i64 (Pn.kdI (Pn.row k).kind))) (go_keep)
    (first | (go_at_call 62; refine (shapeOf_is _ (Pn.kinds_ok k hk) _).mono ?_; rintro e w' ⟨rfl, rfl⟩))
  all_goals
    go_wp2_with fail
    refine bodyPost_ret (v := .tuple #[(Pn.Ins.mk (k + 1) 0 0 0 0).val, .string ⟨(Pn.shp (Pn.row k).kind).toArray⟩, .bool true]) (by simp [results, Tryz.results189, go_sem, y0, y1, y2, y3, y4, Pn.Ins.val]) rfl ⟨rfl, ?_⟩
    exact below5'' HBW.out.drew _ _ _ _ _
end Go.Proofs.YtbmcofdodfcnnaaGreatDoor
namespace Go.Proofs.YtbmcofdodfcnnaaGreatDoor
open Go.RowKit
theorem PcsAt.move {ao : Option Addr} {l : List Pn.Pc} {w w' : World} (h : PcsAt ao l w.heap.size w) (hB : Below w.heap.size w w') (P : Nat) (hP : w.heap.size ≤ P) : PcsAt ao l P w' := fun i p hi => by
  obtain ⟨g, o, h1, h2, h3, h4, h5, h6⟩ := h i p hi
  exact ⟨g, o, h1, Nat.lt_of_lt_of_le h2 hB.size, by omega, h4, (hB.cell (p := ⟨g, _, none⟩) h2).trans h5, (hB.cell (p := ⟨g, _, none⟩) h2).trans h6⟩
def zPart : List Value := [.string ⟨#[]⟩, .int .i64 0, .int .i64 0, .int .i64 0, .int .i64 0, .int .i64 0, .string ⟨#[]⟩]
theorem below7 {w w3 : World} (h : Below w.heap.size w w3) (a b c d e f g : Value) :
    Below w.heap.size w (((((((w3.setCell ⟨w.heap.size, 0, none⟩ a).setCell ⟨w.heap.size, 1, none⟩ b).setCell ⟨w.heap.size, 2, none⟩ c).setCell ⟨w.heap.size, 3, none⟩ d).setCell ⟨w.heap.size, 4, none⟩ e).setCell ⟨w.heap.size, 5, none⟩ f).setCell ⟨w.heap.size, 6, none⟩ g) :=
  ((((((h.setCell (Nat.le_refl _) _).setCell (Nat.le_refl _) _).setCell (Nat.le_refl _) _).setCell (Nat.le_refl _) _).setCell (Nat.le_refl _) _).setCell (Nat.le_refl _) _).setCell (Nat.le_refl _) _
set_option maxRecDepth 100000 in
set_option maxHeartbeats 8000000 in
theorem readInstruction_is (nm : ByteArray) (k : Nat) (l : List Pn.Pc) (ao : Option Addr) (cp : Nat) (w : World) (hk : k < 64) (hf : (List.range 64).find? (Pn.byName nm) = some k) (hE : Env w) (hl : PcsAt ao l w.heap.size w) :
    Calls Tryz.prog 136 #[.string nm, .slice ao l.length cp] w fun e w' => e = .returned (.tuple #[.agg (Pn.rin k l).1.toArray, .int .i64 (Pn.rin k l).2]) ∧ Below w.heap.size w w' := by
  have HL := hide hl
  have HE := hide hE
  have HKO := hide (Pn.kinds_ok k hk)
  have hng := hE.1
  clear hl
  go_enter Tryz.func136, Tryz.ntmps136
  go_wp2_with fail
  refine (named_is nm k _ hk hf).mono ?_
  rintro e w1 ⟨rfl, hB1⟩
  have HZ1 := hide ((CellsAt.new w zPart 193).next hB1)
  have HB1 := hide (((Below.refl w.heap.size w).alloc (Nat.le_refl _) _).trans (hB1.mono (by simp)))
  have hz1 : w.heap.size < w1.heap.size := HZ1.out.1
  clear hB1
  unfold Pn.Ins.val
  simp only
  go_wp2_with fail
  have hBW : Below w1.heap.size w1 ((w1.alloc (.cells #[.int .i64 (k + 1), .int .i64 0, .int .i64 0, .int .i64 0, .int .i64 0] 26)).alloc (.cells #[.string ⟨#[]⟩, .int .i64 (k + 1), .int .i64 0, .int .i64 0, .int .i64 0, .int .i64 0, .string ⟨#[]⟩] 193)) :=
    ((Below.refl _ _).alloc (Nat.le_refl _) _).alloc (by simp) _
  have hC2 : CellsAt (w1.heap.size + 1) (Pn.partCells ⟨k + 1, 0, 0, 0, 0⟩ []) ((w1.alloc (.cells #[.int .i64 (k + 1), .int .i64 0, .int .i64 0, .int .i64 0, .int .i64 0] 26)).alloc (.cells #[.string ⟨#[]⟩, .int .i64 (k + 1), .int .i64 0, .int .i64 0, .int .i64 0, .int .i64 0, .string ⟨#[]⟩] 193)) := by
    have := CellsAt.new (w1.alloc (.cells #[.int .i64 (k + 1), .int .i64 0, .int .i64 0, .int .i64 0, .int .i64 0] 26)) (Pn.partCells ⟨k + 1, 0, 0, 0, 0⟩ []) 193
    rw [World.size_alloc] at this
    exact this
  have HZ2 := hide (CellsAt.next HZ1.out hBW)
  have hB2 := HB1.out.trans (hBW.mono HB1.out.size)
  have hE2 := Env.below HE.out hB2 HE.out.1
  have hP2 := PcsAt.move HL.out hB2 (w1.heap.size + 1) (by omega)
  have HB2 := hide hB2
  have HSD : Hid ((ByteArray.mk (Pn.shp (Pn.row k).kind).toArray).data.toList = Pn.shp (Pn.row k).kind) := by show _ = _; simp
  clear hBW hB2 HB1 HZ1
  generalize ((w1.alloc (.cells #[.int .i64 (k + 1), .int .i64 0, .int .i64 0, .int .i64 0, .int .i64 0] 26)).alloc (.cells #[.string ⟨#[]⟩, .int .i64 (k + 1), .int .i64 0, .int .i64 0, .int .i64 0, .int .i64 0, .string ⟨#[]⟩] 193)) = W at *
  refine (readShape_is _ (by rw [HSD.out]; exact Pn.shp_lett HKO.out) (by simpa [ByteArray.size] using Pn.shp_len (Pn.row k).kind) (w1.heap.size + 1) ⟨k + 1, 0, 0, 0, 0⟩ [] l ao cp W hE2 (by omega) hC2 hP2).mono ?_
  rintro e w3 ⟨rfl, hK3, hS3⟩
  rw [HSD.out] at hS3 ⊢
  have HZ3 := hide (CellsAt.keeps HZ2.out hK3 (by omega) (by simp))
  have HB3 := hide (hK3.below HB2.out (by omega) (fun _ h => by cases h) (Nat.le_refl _))
  have HS3 := hide hS3
  obtain ⟨hzz, yf, yc⟩ := HZ3.out
  have y0 := yc 0 _ rfl
  have y1 := yc 1 _ rfl
  have y2 := yc 2 _ rfl
  have y3 := yc 3 _ rfl
  have y4 := yc 4 _ rfl
  have y5 := yc 5 _ rfl
  have y6 := yc 6 _ rfl
  clear hK3 hS3 hC2 hE2 hP2 yc
  cases hps : Pn.pshape (Pn.shp (Pn.row k).kind) l ⟨k + 1, 0, 0, 0, 0⟩ [] with
  | none =>
    have HR := hide (Pn.rin_none hps)
    simp only [Option.isSome]
    go_wp2_with fail
    refine bodyPost_ret (v := .tuple #[.agg zPart.toArray, .int .i64 4]) (by simp [results, Tryz.results136, go_sem, y0, y1, y2, y3, y4, y5, y6, zPart]) rfl ⟨by rw [HR.out]; rfl, below7 HB3.out _ _ _ _ _ _ _⟩
  | some s =>
    obtain ⟨⟨op, rd, rs1, rs2, imm⟩, tg⟩ := s
    have HPS := hide hps
    obtain ⟨hpp, _, pc⟩ := HS3.out _ hps
    have p0 := pc 0 _ rfl
    have p1 := pc 1 _ rfl
    have p2 := pc 2 _ rfl
    have p3 := pc 3 _ rfl
    have p4 := pc 4 _ rfl
    have p5 := pc 5 _ rfl
    have p6 := pc 6 _ rfl
    simp only at p1 p2 p3 p4 p5 p6
    have HPC := hide pc
    clear hps pc HS3
    simp only [Option.isSome]
    go_wp2_with fail
    refine (iright_any ⟨op, rd, rs1, rs2, imm⟩ _).mono ?_
    rintro e w4 ⟨rfl, hB4⟩
    have HZ4 := hide (CellsAt.next HZ3.out hB4)
    have HB4 := hide (HB3.out.trans (hB4.mono HB3.out.size))
    have hp4 : ∀ j v, (Pn.partCells ⟨op, rd, rs1, rs2, imm⟩ tg)[j]? = some v → w4.cell? ⟨w1.heap.size + 1, j, none⟩ = some v := fun j v hj => (hB4.cell (p := ⟨w1.heap.size + 1, j, none⟩) hpp).trans (HPC.out j v hj)
    have P0 := hp4 0 _ rfl
    have P1 := hp4 1 _ rfl
    have P2 := hp4 2 _ rfl
    have P3 := hp4 3 _ rfl
    have P4 := hp4 4 _ rfl
    have P5 := hp4 5 _ rfl
    have P6 := hp4 6 _ rfl
    simp only at P1 P2 P3 P4 P5 P6
    have hpp4 : w1.heap.size + 1 < w4.heap.size := Nat.lt_of_lt_of_le hpp hB4.size
    clear y0 y1 y2 y3 y4 y5 y6 yf hzz p0 p1 p2 p3 p4 p5 p6 hB4 hp4
    obtain ⟨hzz, yf, yc⟩ := HZ4.out
    have y0 := yc 0 _ rfl
    have y1 := yc 1 _ rfl
    have y2 := yc 2 _ rfl
    have y3 := yc 3 _ rfl
    have y4 := yc 4 _ rfl
    have y5 := yc 5 _ rfl
    have y6 := yc 6 _ rfl
    clear yc
    by_cases hr : Pn.right ⟨op, rd, rs1, rs2, imm⟩ = true
    · have hop : 1 ≤ op ∧ op ≤ 64 := by
        apply Classical.byContradiction; intro hn
        rw [Pn.right_out _ hn] at hr; cases hr
      obtain ⟨kk, rfl⟩ : ∃ kk : Nat, op = kk + 1 := ⟨(op - 1).toNat, by omega⟩
      have HR := hide (Pn.rin_yes HPS.out hr)
      rw [Pn.rightV_yes hr]
      unfold Pn.irowV Pn.irow
      clear hr
      go_wp2_with fail
      refine bodyPost_ret (v := .tuple #[.agg (Pn.partCells ⟨kk + 1, rd, rs1, rs2, imm⟩ tg).toArray, .int .i64 0]) (by simp [results, Tryz.results136, go_sem, y0, y1, y2, y3, y4, y5, y6, hzz, Pn.partCells]) rfl ⟨by rw [HR.out], ?_⟩
      exact (below7 HB4.out _ _ _ _ _ _ _).alloc (by have := HB4.out.size; simp [World.setCell]; omega) _
    · have hr' : Pn.right ⟨op, rd, rs1, rs2, imm⟩ = false := by simpa using hr
      have HR := hide (Pn.rin_no HPS.out hr')
      rw [Pn.rightV_no hr']
      unfold Pn.irow0V Pn.irow0
      clear hr hr'
      go_wp2_with fail
      refine bodyPost_ret (v := .tuple #[.agg zPart.toArray, .int .i64 5]) (by simp [results, Tryz.results136, go_sem, y0, y1, y2, y3, y4, y5, y6, hzz, zPart]) rfl ⟨by rw [HR.out]; rfl, ?_⟩
      exact (below7 HB4.out _ _ _ _ _ _ _).alloc (by have := HB4.out.size; simp [World.setCell]; omega) _
end Go.Proofs.YtbmcofdodfcnnaaGreatDoor
namespace Go.Proofs.YtbmcofdodfcnnaaGreatDoor
open Go.RowKit
theorem find_lt {p : Nat → Bool} {k : Nat} (h : (List.range 64).find? p = some k) : k < 64 := by
  rw [List.find?_range_eq_some] at h
  simpa using h.2.1
set_option maxRecDepth 100000 in
set_option maxHeartbeats 8000000 in
theorem readPlain_is (nm : ByteArray) (l : List Pn.Pc) (ao : Option Addr) (cp : Nat) (w : World) (hE : Env w) (hl : PcsAt ao l w.heap.size w) :
    Calls Tryz.prog 74 #[.string nm, .slice ao l.length cp] w fun e w' => e = .returned (.tuple #[(Pn.pplain nm l).1.val, .int .i64 (Pn.pplain nm l).2]) ∧ Below w.heap.size w w' := by
  have HL := hide hl
  have HE := hide hE
  clear hl
  go_enter Tryz.func74, Tryz.ntmps74
  go_wp2_with fail
  refine (Named_is nm _).mono ?_
  rintro e w1 ⟨rfl, hB1⟩
  have HZ1 := hide ((CellsAt.new w zI 26).next hB1)
  have HB1 := hide (((Below.refl w.heap.size w).alloc (Nat.le_refl _) _).trans (hB1.mono (by simp)))
  have hz1 : w.heap.size < w1.heap.size := HZ1.out.1
  clear hB1
  cases hf : (List.range 64).find? (Pn.byName nm) with
  | none =>
    have HP : Hid (Pn.pplain nm l = (⟨0, 0, 0, 0, 0⟩, 4)) := by show _ = _; simp only [Pn.pplain, hf]
    obtain ⟨_, yf, yc⟩ := HZ1.out
    have y0 := yc 0 _ rfl
    have y1 := yc 1 _ rfl
    have y2 := yc 2 _ rfl
    have y3 := yc 3 _ rfl
    have y4 := yc 4 _ rfl
    clear yc
    unfold findV Pn.irow0V Pn.irow0
    go_wp2_with fail
    refine bodyPost_ret (v := .tuple #[(Pn.Ins.mk 0 0 0 0 0).val, .int .i64 4]) (by simp [results, Tryz.results74, go_sem, y0, y1, y2, y3, y4, hz1, Pn.Ins.val]) rfl ⟨by rw [HP.out], ?_⟩
    exact (below5'' HB1.out _ _ _ _ _).alloc (by have := HB1.out.size; simp [World.setCell]; omega) _
  | some k =>
    have hk := find_lt hf
    have HF := hide hf
    have hB2 : Below w.heap.size w (w1.alloc (.cells (Pn.irow k).toArray 100)) := HB1.out.alloc HB1.out.size _
    have hE2 := Env.below HE.out hB2 HE.out.1
    have hP2 : PcsAt ao l (w1.alloc (.cells (Pn.irow k).toArray 100)).heap.size (w1.alloc (.cells (Pn.irow k).toArray 100)) := PcsAt.move HL.out hB2 _ (by simp; omega)
    have HZ2 := hide (CellsAt.alloc HZ1.out (.cells (Pn.irow k).toArray 100))
    have HB2 := hide hB2
    clear hf hB2
    unfold findV Pn.irowV
    unfold Pn.irow at hE2 hP2 HZ2 HB2 ⊢
    go_wp2_with fail
    refine (readInstruction_is nm k l ao cp _ hk HF.out hE2 hP2).mono ?_
    rintro e w3 ⟨rfl, hB3⟩
    have HZ3 := hide (CellsAt.next HZ2.out hB3)
    have HB3 := hide (HB2.out.trans (hB3.mono HB2.out.size))
    obtain ⟨hzz, yf, yc⟩ := HZ3.out
    have y0 := yc 0 _ rfl
    have y1 := yc 1 _ rfl
    have y2 := yc 2 _ rfl
    have y3 := yc 3 _ rfl
    have y4 := yc 4 _ rfl
    clear hB3 hE2 hP2 yc
    cases hps : Pn.pshape (Pn.shp (Pn.row k).kind) l ⟨k + 1, 0, 0, 0, 0⟩ [] with
    | none =>
      have HP : Hid (Pn.pplain nm l = (⟨0, 0, 0, 0, 0⟩, 4)) := by show _ = _; simp only [Pn.pplain, HF.out, hps]
      rw [Pn.rin_none hps]
      unfold Pn.partCells
      simp only
      go_wp2_with fail
      refine bodyPost_ret (v := .tuple #[(Pn.Ins.mk 0 0 0 0 0).val, .int .i64 4]) (by simp [results, Tryz.results74, go_sem, y0, y1, y2, y3, y4, hzz, Pn.Ins.val]) rfl ⟨by rw [HP.out], ?_⟩
      exact (below5'' HB3.out _ _ _ _ _).alloc (by have := HB3.out.size; simp [World.setCell]; omega) _
    | some s =>
      obtain ⟨⟨op, rd, rs1, rs2, imm⟩, tg⟩ := s
      by_cases hr : Pn.right ⟨op, rd, rs1, rs2, imm⟩ = true
      · rw [Pn.rin_yes hps hr]
        unfold Pn.partCells
        simp only
        by_cases htg : tg = []
        · have HP : Hid (Pn.pplain nm l = (⟨op, rd, rs1, rs2, imm⟩, 0)) := by show _ = _; simp only [Pn.pplain, HF.out, hps, hr, htg, if_true]
          subst htg
          clear hps hr
          go_wp2_with fail
          refine bodyPost_ret (v := .tuple #[(Pn.Ins.mk op rd rs1 rs2 imm).val, .int .i64 0]) (by simp [results, Tryz.results74, go_sem, y0, y1, y2, y3, y4, hzz, Pn.Ins.val]) rfl ⟨by rw [HP.out], ?_⟩
          exact (below5'' HB3.out _ _ _ _ _).alloc (by have := HB3.out.size; simp [World.setCell]; omega) _
        · have HP : Hid (Pn.pplain nm l = (⟨0, 0, 0, 0, 0⟩, 4)) := by show _ = _; simp only [Pn.pplain, HF.out, hps, hr, htg, if_true, if_false]
          have hte : tg.isEmpty = false := by cases tg with | nil => exact absurd rfl htg | cons a b => rfl
          clear hps hr
          go_wp2_with fail
          refine bodyPost_ret (v := .tuple #[(Pn.Ins.mk 0 0 0 0 0).val, .int .i64 4]) (by simp [results, Tryz.results74, go_sem, y0, y1, y2, y3, y4, hzz, Pn.Ins.val]) rfl ⟨by rw [HP.out], ?_⟩
          exact (below5'' HB3.out _ _ _ _ _).alloc (by have := HB3.out.size; simp [World.setCell]; omega) _
      · have hr' : Pn.right ⟨op, rd, rs1, rs2, imm⟩ = false := by simpa using hr
        have HP : Hid (Pn.pplain nm l = (⟨0, 0, 0, 0, 0⟩, 5)) := by show _ = _; simp only [Pn.pplain, HF.out, hps, hr', if_false, Bool.false_eq_true]
        rw [Pn.rin_no hps hr']
        unfold Pn.partCells
        simp only
        clear hps hr hr'
        go_wp2_with fail
        refine bodyPost_ret (v := .tuple #[(Pn.Ins.mk 0 0 0 0 0).val, .int .i64 5]) (by simp [results, Tryz.results74, go_sem, y0, y1, y2, y3, y4, hzz, Pn.Ins.val]) rfl ⟨by rw [HP.out], ?_⟩
        exact (below5'' HB3.out _ _ _ _ _).alloc (by have := HB3.out.size; simp [World.setCell]; omega) _
end Go.Proofs.YtbmcofdodfcnnaaGreatDoor
namespace Go.Proofs.YtbmcofdodfcnnaaGreatDoor
open Go.RowKit
end Go.Proofs.YtbmcofdodfcnnaaGreatDoor
