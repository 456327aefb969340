import Derived.Test.YtbmcofdodfcnnaaGreatDoorV21
import Derived.Test.YtbmcofdodfcnnaaGreatDoorW14
import Derived.Test.YtbmcofdodfcnnaaGreatDoorPH
namespace Go.Proofs.YtbmcofdodfcnnaaGreatDoor
open Go.RowKit

theorem num_is (n : Int) (w : World) : Calls Tryz.prog 92 #[.int .i64 n] w fun e w' => e = .returned (.int .i64 n) ∧ w' = w := by
  go_enter Tryz.func92, Tryz.ntmps92
  go_wp2
  go_ret
  exact ⟨rfl, rfl⟩

/-- a step of a script -/
def opCells (kd on a b op rd rs1 rs2 imm : Int) (s : ByteArray) (sh : Bool) : List Value :=
  [.int .i64 kd, .int .i64 on, .int .i64 a, .int .i64 b, .int .i64 op, .int .i64 rd, .int .i64 rs1, .int .i64 rs2, .int .i64 imm, .string s, .bool sh]

set_option maxRecDepth 100000 in
set_option maxHeartbeats 4000000 in
theorem coded_1 (on a b op rd rs1 rs2 imm : Int) (s : ByteArray) (sh : Bool) (w : World) :
    Calls Tryz.prog 52 #[.agg (opCells 1 on a b op rd rs1 rs2 imm s sh).toArray] w fun e w' => e = .returned (.bool true) ∧ Below w.heap.size w w' := by
  have HC := hide (CellsAt.new w (opCells 1 on a b op rd rs1 rs2 imm s sh) 74)
  unfold opCells
  go_enter Tryz.func52, Tryz.ntmps52
  go_wp2_with fail
  refine (pencode_any ⟨op, rd, rs1, rs2, imm⟩ _).mono ?_
  rintro e w1 ⟨rfl, hB1⟩
  have HC1 := hide (CellsAt.next HC.out hB1)
  have HB1 := hide (((Below.refl w.heap.size w).alloc (Nat.le_refl _) _).trans (hB1.mono (by simp)))
  obtain ⟨hz, _, cc⟩ := HC1.out
  have c4 := cc 4 _ rfl
  have c5 := cc 5 _ rfl
  have c6 := cc 6 _ rfl
  have c7 := cc 7 _ rfl
  have c8 := cc 8 _ rfl
  clear cc hB1
  go_wp2_with fail
  refine (encode_any ⟨op, rd, rs1, rs2, imm⟩ _).mono ?_
  rintro e w2 ⟨rfl, hB2⟩
  have HB2 := hide (HB1.out.trans (hB2.mono HB1.out.size))
  clear hB2 c4 c5 c6 c7 c8
  generalize Pn.enc ⟨op, rd, rs1, rs2, imm⟩ = E
  go_wp2_with (go_at_call 92; refine (num_is _ _).mono ?_; rintro e w' ⟨rfl, rfl⟩)
  go_ret
  exact ⟨rfl, HB2.out⟩

set_option maxRecDepth 100000 in
set_option maxHeartbeats 4000000 in
theorem coded_2 (on a b op rd rs1 rs2 imm : Int) (s : ByteArray) (sh : Bool) (w : World) :
    Calls Tryz.prog 52 #[.agg (opCells 2 on a b op rd rs1 rs2 imm s sh).toArray] w fun e w' => e = .returned (.bool true) ∧ Below w.heap.size w w' := by
  have HC := hide (CellsAt.new w (opCells 2 on a b op rd rs1 rs2 imm s sh) 74)
  unfold opCells
  go_enter Tryz.func52, Tryz.ntmps52
  go_wp2_with fail
  refine (pdecode_any a _).mono ?_
  rintro e w1 ⟨rfl, hB1⟩
  have HC1 := hide (CellsAt.next HC.out hB1)
  have HB1 := hide (((Below.refl w.heap.size w).alloc (Nat.le_refl _) _).trans (hB1.mono (by simp)))
  have c2 := HC1.out.2.2 2 _ rfl
  have hz := HC1.out.1
  clear hB1
  generalize hD : Pn.dec a = D
  have HD := hide hD
  clear hD
  obtain ⟨⟨xo, xd, x1, x2, xi⟩, er⟩ := D
  unfold Pn.Ins.val
  simp only
  go_wp2_with fail
  refine (decode_any a _).mono ?_
  rintro e w2 ⟨rfl, hB2⟩
  have HI := hide ((CellsAt.new w1 [.int .i64 xo, .int .i64 xd, .int .i64 x1, .int .i64 x2, .int .i64 xi] 26).next hB2)
  have HB2 := hide ((HB1.out.alloc HB1.out.size (.cells #[.int .i64 xo, .int .i64 xd, .int .i64 x1, .int .i64 x2, .int .i64 xi] 26)).trans (hB2.mono (by have := HB1.out.size; simp; omega)))
  rw [HD.out]
  unfold Pn.Ins.val
  simp only
  obtain ⟨hi, _, ic⟩ := HI.out
  have i0 := ic 0 _ rfl
  have i1 := ic 1 _ rfl
  have i2 := ic 2 _ rfl
  have i3 := ic 3 _ rfl
  have i4 := ic 4 _ rfl
  clear ic hB2 c2
  go_wp2_with (go_at_call 92; refine (num_is _ _).mono ?_; rintro e w' ⟨rfl, rfl⟩)
  go_ret
  exact ⟨rfl, HB2.out.alloc HB2.out.size _⟩

set_option maxRecDepth 100000 in
set_option maxHeartbeats 4000000 in
theorem coded_3 (on a b op rd rs1 rs2 imm : Int) (s : ByteArray) (sh : Bool) (w : World) (hE : Env w) :
    Calls Tryz.prog 52 #[.agg (opCells 3 on a b op rd rs1 rs2 imm s sh).toArray] w fun e w' => e = .returned (.bool true) ∧ Below w.heap.size w w' := by
  have HC := hide (CellsAt.new w (opCells 3 on a b op rd rs1 rs2 imm s sh) 74)
  have HE := hide (fun o => hE.alloc o)
  unfold opCells
  go_enter Tryz.func52, Tryz.ntmps52
  go_wp2_with fail
  refine (pshow_any ⟨op, rd, rs1, rs2, imm⟩ _ (HE.out _)).mono ?_
  rintro e w1 ⟨rfl, hB1⟩
  have HC1 := hide (CellsAt.next HC.out hB1)
  have HB1 := hide (((Below.refl w.heap.size w).alloc (Nat.le_refl _) _).trans (hB1.mono (by simp)))
  have HE1 : Hid (Env w1) := Env.below (HE.out _) hB1 (HE.out _).1
  obtain ⟨hz, _, cc⟩ := HC1.out
  have c4 := cc 4 _ rfl
  have c5 := cc 5 _ rfl
  have c6 := cc 6 _ rfl
  have c7 := cc 7 _ rfl
  have c8 := cc 8 _ rfl
  clear cc hB1
  go_wp2_with fail
  refine (show_any ⟨op, rd, rs1, rs2, imm⟩ _ HE1.out).mono ?_
  rintro e w2 ⟨rfl, hB2⟩
  have HB2 := hide (HB1.out.trans (hB2.mono HB1.out.size))
  clear hB2 c4 c5 c6 c7 c8
  generalize Pn.shw ⟨op, rd, rs1, rs2, imm⟩ = E
  go_wp2_with (go_at_call 92; refine (num_is _ _).mono ?_; rintro e w' ⟨rfl, rfl⟩)
  go_ret
  exact ⟨rfl, HB2.out⟩

set_option maxRecDepth 100000 in
set_option maxHeartbeats 4000000 in
theorem coded_4 (on a b op rd rs1 rs2 imm : Int) (s : ByteArray) (sh : Bool) (w : World) (hE : Env w) :
    Calls Tryz.prog 52 #[.agg (opCells 4 on a b op rd rs1 rs2 imm s sh).toArray] w fun e w' => e = .returned (.bool true) ∧ Below w.heap.size w w' := by
  have HC := hide (CellsAt.new w (opCells 4 on a b op rd rs1 rs2 imm s sh) 74)
  have HE := hide (fun o => hE.alloc o)
  unfold opCells
  go_enter Tryz.func52, Tryz.ntmps52
  go_wp2_with fail
  refine (pread_any s _ (HE.out _)).mono ?_
  rintro e w1 ⟨rfl, hB1⟩
  have HC1 := hide (CellsAt.next HC.out hB1)
  have HB1 := hide (((Below.refl w.heap.size w).alloc (Nat.le_refl _) _).trans (hB1.mono (by simp)))
  have c9 := HC1.out.2.2 9 _ rfl
  have hz := HC1.out.1
  clear hB1
  rw [Pn.prd_rd]
  generalize hD : Pn.rd s = D
  have HD := hide hD
  clear hD
  obtain ⟨⟨xo, xd, x1, x2, xi⟩, er⟩ := D
  unfold Pn.Ins.val
  simp only
  go_wp2_with fail
  refine (read_any s _).mono ?_
  rintro e w2 ⟨rfl, hB2⟩
  have HI := hide ((CellsAt.new w1 [.int .i64 xo, .int .i64 xd, .int .i64 x1, .int .i64 x2, .int .i64 xi] 26).next hB2)
  have HB2 := hide ((HB1.out.alloc HB1.out.size (.cells #[.int .i64 xo, .int .i64 xd, .int .i64 x1, .int .i64 x2, .int .i64 xi] 26)).trans (hB2.mono (by have := HB1.out.size; simp; omega)))
  rw [HD.out]
  unfold Pn.Ins.val
  simp only
  obtain ⟨hi, _, ic⟩ := HI.out
  have i0 := ic 0 _ rfl
  have i1 := ic 1 _ rfl
  have i2 := ic 2 _ rfl
  have i3 := ic 3 _ rfl
  have i4 := ic 4 _ rfl
  clear ic hB2 c9
  go_wp2_with (go_at_call 92; refine (num_is _ _).mono ?_; rintro e w' ⟨rfl, rfl⟩)
  go_ret
  exact ⟨rfl, HB2.out.alloc HB2.out.size _⟩

end Go.Proofs.YtbmcofdodfcnnaaGreatDoor
