import Derived.Test.YtbmcofdodfcnnaaGreatDoorGV6
import Derived.Lib.QuietBelow
namespace Go.Proofs.YtbmcofdodfcnnaaGreatDoor
open Go.RowKit

theorem iencode_not (i : Pn.Ins) (w : World) (h : Pn.right i = false) :
    Calls Tryz.prog 35 #[i.val] w fun e w' => e = .returned (.tuple #[.int .i64 0, .int .i64 1]) ∧ Below w.heap.size w w' := by
  have HV := (show Hid _ from Pn.rightV_no h)
  clear h
  obtain ⟨op, rd, rs1, rs2, imm⟩ := i
  unfold Pn.Ins.val
  simp only
  go_enter Tryz.func35, Tryz.ntmps35
  go_wp2_with fail
  refine (iright_any ⟨op, rd, rs1, rs2, imm⟩ _).mono ?_
  rintro e w1 ⟨rfl, hB1⟩
  rw [HV.out]
  have HB1 : Hid (Below w.heap.size w w1) := ((Below.refl _ _).alloc (Nat.le_refl _) _).trans (hB1.mono (by simp))
  clear hB1
  unfold Pn.irow0V Pn.irow0
  go_wp2_with fail
  go_ret2
  exact ⟨rfl, HB1.out.alloc HB1.out.size _⟩

set_option maxRecDepth 100000 in
set_option maxHeartbeats 4000000 in
theorem iencode_in (k : Nat) (rd rs1 rs2 imm : Int) (w : World) (hk : k < 64) (hr : Pn.right ⟨k + 1, rd, rs1, rs2, imm⟩ = true) :
    Calls Tryz.prog 35 #[.agg #[.int .i64 (k + 1), .int .i64 rd, .int .i64 rs1, .int .i64 rs2, .int .i64 imm]] w fun e w' =>
      e = .returned (.tuple #[.int .i64 (Pn.encR k rd rs1 rs2 imm), .int .i64 0]) ∧ Below w.heap.size w w' := by
  have HV := (show Hid _ from Pn.rightV_yes hr)
  obtain ⟨⟨d0, d1⟩, ⟨s0, s1⟩, ⟨t0, t1⟩, m0, m1⟩ := Pn.right_bd hk hr
  have HE := (show Hid _ from Pn.enc_isa hk hr)
  clear hr
  go_enter Tryz.func35, Tryz.ntmps35
  go_wp2_with fail
  refine (iright_any ⟨k + 1, rd, rs1, rs2, imm⟩ _).mono ?_
  rintro e w1 ⟨rfl, hB1⟩
  rw [HV.out]
  have HI1 := (show Hid _ from (CellsAt.new w [.int .i64 (k + 1), .int .i64 rd, .int .i64 rs1, .int .i64 rs2, .int .i64 imm] 26).next hB1)
  have HB1 : Hid (Below w.heap.size w w1) := ((Below.refl _ _).alloc (Nat.le_refl _) _).trans (hB1.mono (by simp))
  clear hB1
  unfold Pn.irowV Pn.irow
  go_wp2_with fail
  refine (layoutOf_is (Pn.row k).kind (Pn.kinds_ok k hk) _).mono ?_
  rintro e w2 ⟨sl, rfl, hP, hB2⟩
  obtain ⟨ao, cap, rfl, hpc⟩ := hP
  obtain ⟨hr1, _, rc⟩ := (CellsAt.new w1 (Pn.irow k) 100).next hB2
  obtain ⟨hi1, _, ic⟩ := CellsAt.next (CellsAt.alloc HI1.out _) hB2
  have HP2 : Hid (PcAt (Pn.pieces (Pn.row k).kind) ao cap w2) := fun j p hj => by
    obtain ⟨b, h1, _, h3⟩ := hpc j p hj
    exact ⟨b, h1, h3⟩
  have i1 := ic 1 _ rfl
  have i2 := ic 2 _ rfl
  have i3 := ic 3 _ rfl
  have i4 := ic 4 _ rfl
  have r0 := rc 0 _ rfl
  have r1 := rc 1 _ rfl
  have r2 := rc 2 _ rfl
  have r3 := rc 3 _ rfl
  have r4 := rc 4 _ rfl
  have r5 := rc 5 _ rfl
  have HB2 : Hid (Below w.heap.size w w2) := (HB1.out.alloc HB1.out.size _).trans (hB2.mono (by have := HB1.out.size; simp; omega))
  clear hB2 ic rc HB1 HI1 hpc
  unfold Pn.layCells
  go_wp2_with fail
  have hW : Below w2.heap.size w2 (w2.alloc (.cells (Pn.layCells (Pn.row k).kind (.slice ao (Pn.pieces (Pn.row k).kind).length cap)).toArray 105)) := (Below.refl _ _).alloc (Nat.le_refl _) _
  have up : ∀ b j v, b < w2.heap.size → w2.cell? ⟨b, j, none⟩ = some v → ∀ d os, (Go.Sort.grow (redrawn (w2.alloc (.cells (Pn.layCells (Pn.row k).kind (.slice ao (Pn.pieces (Pn.row k).kind).length cap)).toArray 105)) d) os).cell? ⟨b, j, none⟩ = some v :=
    fun b j v hb h d os => cell_regrown ((hW.cell (p := ⟨b, j, none⟩) hb).trans h) d os
  have R0 := up _ _ _ hr1 r0
  have R1 := up _ _ _ hr1 r1
  have R2 := up _ _ _ hr1 r2
  have R3 := up _ _ _ hr1 r3
  have R4 := up _ _ _ hr1 r4
  have R5 := up _ _ _ hr1 r5
  have I4 := up _ _ _ hi1 i4
  obtain ⟨hl1, _, lc⟩ := CellsAt.new w2 (Pn.layCells (Pn.row k).kind (.slice ao (Pn.pieces (Pn.row k).kind).length cap)) 105
  have L0 := cell_regrown (lc 0 _ rfl)
  have L1 := cell_regrown (lc 1 _ rfl)
  have L2 := cell_regrown (lc 2 _ rfl)
  have L3 := cell_regrown (lc 3 _ rfl)
  have L4 := cell_regrown (lc 4 _ rfl)
  have L5 := cell_regrown (lc 5 _ rfl)
  have L6 := cell_regrown (lc 6 _ rfl)
  have L7 := cell_regrown (lc 7 _ rfl)
  have L8 := cell_regrown (lc 8 _ rfl)
  have HPW := (show Hid _ from PcAt.next HP2.out hW)
  have HBW := (show Hid _ from Below.alloc HB2.out HB2.out.size (.cells (Pn.layCells (Pn.row k).kind (.slice ao (Pn.pieces (Pn.row k).kind).length cap)).toArray 105))
  clear lc up hW r0 r1 r2 r3 r4 r5 i1 i2 i3 i4
  unfold Pn.layCells at L0 L1 L2 L3 L4 L5 L6 L7 L8 R0 R1 R2 R3 R4 R5 I4 HPW HBW
  generalize w2.alloc _ = W at L0 L1 L2 L3 L4 L5 L6 L7 L8 R0 R1 R2 R3 R4 R5 I4 HPW HBW hl1 ⊢
  obtain ⟨f0, f1, f2, f3, f4, f5, f6⟩ := Pn.row_bd k hk
  have HPB := (show Hid _ from Pn.pb_kinds (Pn.kinds_ok k hk))
  have hln : (Pn.pieces (Pn.row k).kind).length ≤ 4 := Pn.pieces_len _
  have hgp : (Pn.gpos (Pn.row k).kind : Int) ≤ 40 := Pn.gpos_le _
  refine wp_region_quiet_below (by kernel_rfl) (by kernel_rfl) ?_
  repeat (quiet_step (first
    | (go_at_call 60; exact Calls.regrown_of (fixedPart_any _ _ _ _ _ _ _ _ _ _ _ _ _ _ _ _ _ _ (by omega) (by omega) (by omega) (by omega) (by omega) (by omega)))
    | (go_at_call 61; exact Calls.regrown_of (immIntoWord_any _ _ _ _ _ _ _ _ _ _ _ _ _ HPB.out hln (PcAt.next HPW.out (below_regrown _ _ _))))))
  refine wpQuiet_nil ?_
  intro _ hw'
  obtain ⟨⟨dq, osq⟩, hw''⟩ := hw'
  subst hw''
  go_wp2_with fail
  go_ret2
  refine ⟨?_, Below.trans HBW.out ((below_regrown W dq osq).mono HBW.out.size)⟩
  rw [← HE.out]
  rfl

theorem iencode_any (i : Pn.Ins) (w : World) :
    Calls Tryz.prog 35 #[i.val] w fun e w' => e = .returned (.tuple #[.int .i64 (Pn.enc i).1, .int .i64 (Pn.enc i).2]) ∧ Below w.heap.size w w' := by
  by_cases h : Pn.right i = true
  · obtain ⟨op, rd, rs1, rs2, imm⟩ := i
    have hop : 1 ≤ op ∧ op ≤ 64 := by
      apply Classical.byContradiction; intro hn
      rw [Pn.right_out _ hn] at h; cases h
    obtain ⟨k, rfl⟩ : ∃ k : Nat, op = k + 1 := ⟨(op - 1).toNat, by omega⟩
    have hk : k < 64 := by omega
    rw [Pn.enc_yes h]
    exact iencode_in k rd rs1 rs2 imm w hk h
  · have h' : Pn.right i = false := by simpa using h
    rw [Pn.enc_not h']
    exact iencode_not i w h'

theorem pencode_any (i : Pn.Ins) (w : World) :
    Calls Tryz.prog 14 #[i.val] w fun e w' => e = .returned (.tuple #[.int .i64 (Pn.enc i).1, .int .i64 (Pn.enc i).2]) ∧ Below w.heap.size w w' := by
  obtain ⟨op, rd, rs1, rs2, imm⟩ := i
  unfold Pn.Ins.val
  simp only
  go_enter Tryz.func14, Tryz.ntmps14
  go_wp2_with fail
  refine (iencode_any ⟨op, rd, rs1, rs2, imm⟩ _).mono ?_
  rintro e w1 ⟨rfl, hB1⟩
  have HB1 : Hid (Below w.heap.size w w1) := ((Below.refl _ _).alloc (Nat.le_refl _) _).trans (hB1.mono (by simp))
  clear hB1
  go_wp2_with fail
  go_ret2
  exact ⟨rfl, HB1.out⟩

end Go.Proofs.YtbmcofdodfcnnaaGreatDoor
namespace Go.Proofs.YtbmcofdodfcnnaaGreatDoor
open Go.RowKit

theorem registerOfWord_is (n at' : Int) (t : Bool) (w : World) (a0 : 0 ≤ at') (a1 : at' ≤ 40) :
    Calls Tryz.prog 70 #[.int .i64 n, .int .i64 at', .bool t] w fun e w' => e = .returned (.int .i64 (if t then Pn.bitz n (at' + 5 - 1) at' else 0)) ∧ ∃ k, w' = w.drewN k := by
  cases t
  · go_enter Tryz.func70, Tryz.ntmps70
    go_wp2_with fail
    go_ret
    exact ⟨rfl, 0, rfl⟩
  · go_enter Tryz.func70, Tryz.ntmps70
    go_wp2_with fail
    refine (ibits_is _ _ _ _ a0 a1 (by decide) (by decide)).mono ?_
    rintro e w1 ⟨rfl, k, rfl⟩
    go_wp2_with fail
    go_ret
    exact ⟨rfl, k, rfl⟩

set_option maxRecDepth 100000 in
set_option maxHeartbeats 4000000 in
theorem fits_is (k : Nat) (n : Int) (w : World) (hk : k < 64) :
    Calls Tryz.prog 69 #[.agg (Pn.irow k).toArray, .int .i64 n] w fun e w' => e = .returned (.bool (Pn.fitsW k n)) ∧ Below w.heap.size w w' := by
  unfold Pn.irow
  by_cases ho : (Pn.row k).opc = Pn.andz n 127
  · have h1 : ((Pn.row k).opc != bits BinOp.and IntKind.i64 n 127) = false := by
      have : Pn.andz n 127 = bits BinOp.and IntKind.i64 n 127 := rfl
      rw [← this]; simpa using ho
    have HF : Hid (Pn.fitsW k n = (bits BinOp.and IntKind.i64 n (Pn.fixm (Pn.row k).kind) == Pn.fixw (Pn.row k).opc (Pn.row k).f (Pn.row k).g (2 ^ Pn.gpos (Pn.row k).kind))) := by
      show Pn.fitsW k n = _
      unfold Pn.fitsW
      rw [decide_eq_true ho, Bool.true_and, Bool.beq_eq_decide_eq]
      rfl
    clear ho
    go_enter Tryz.func69, Tryz.ntmps69
    go_wp2_with fail
    refine (layoutOf_is (Pn.row k).kind (Pn.kinds_ok k hk) _).mono ?_
    rintro e w2 ⟨sl, rfl, hP, hB2⟩
    obtain ⟨ao, cap, rfl, _⟩ := hP
    obtain ⟨hr1, _, rc⟩ := (CellsAt.new w (Pn.irow k) 100).next hB2
    have HB2 : Hid (Below w.heap.size w w2) := ((Below.refl _ _).alloc (Nat.le_refl _) _).trans (hB2.mono (by simp))
    clear hB2
    unfold Pn.layCells
    go_wp2_with fail
    have hW : Below w2.heap.size w2 (w2.alloc (.cells (Pn.layCells (Pn.row k).kind (.slice ao (Pn.pieces (Pn.row k).kind).length cap)).toArray 105)) := (Below.refl _ _).alloc (Nat.le_refl _) _
    have up : ∀ b j v, b < w2.heap.size → w2.cell? ⟨b, j, none⟩ = some v → ∀ d os, (Go.Sort.grow (redrawn (w2.alloc (.cells (Pn.layCells (Pn.row k).kind (.slice ao (Pn.pieces (Pn.row k).kind).length cap)).toArray 105)) d) os).cell? ⟨b, j, none⟩ = some v :=
      fun b j v hb h d os => cell_regrown ((hW.cell (p := ⟨b, j, none⟩) hb).trans h) d os
    have R0 := up _ _ _ hr1 (rc 0 _ rfl)
    have R1 := up _ _ _ hr1 (rc 1 _ rfl)
    have R2 := up _ _ _ hr1 (rc 2 _ rfl)
    have R3 := up _ _ _ hr1 (rc 3 _ rfl)
    have R4 := up _ _ _ hr1 (rc 4 _ rfl)
    have R5 := up _ _ _ hr1 (rc 5 _ rfl)
    obtain ⟨hl1, _, lc⟩ := CellsAt.new w2 (Pn.layCells (Pn.row k).kind (.slice ao (Pn.pieces (Pn.row k).kind).length cap)) 105
    have L0 := cell_regrown (lc 0 _ rfl)
    have L1 := cell_regrown (lc 1 _ rfl)
    have L2 := cell_regrown (lc 2 _ rfl)
    have L3 := cell_regrown (lc 3 _ rfl)
    have L4 := cell_regrown (lc 4 _ rfl)
    have L5 := cell_regrown (lc 5 _ rfl)
    have L6 := cell_regrown (lc 6 _ rfl)
    have L7 := cell_regrown (lc 7 _ rfl)
    have L8 := cell_regrown (lc 8 _ rfl)
    have HBW := (show Hid _ from Below.alloc HB2.out HB2.out.size (.cells (Pn.layCells (Pn.row k).kind (.slice ao (Pn.pieces (Pn.row k).kind).length cap)).toArray 105))
    clear lc up hW rc
    unfold Pn.layCells at L0 L1 L2 L3 L4 L5 L6 L7 L8 R0 R1 R2 R3 R4 R5 HBW
    generalize w2.alloc _ = W at L0 L1 L2 L3 L4 L5 L6 L7 L8 R0 R1 R2 R3 R4 R5 HBW hl1 ⊢
    obtain ⟨f0, f1, f2, f3, f4, f5, f6⟩ := Pn.row_bd k hk
    have hgp : (Pn.gpos (Pn.row k).kind : Int) ≤ 40 := Pn.gpos_le _
    refine wp_region_quiet_below (by kernel_rfl) (by kernel_rfl) ?_
    repeat (quiet_step (first
      | (go_at_call 60; exact Calls.regrown_of (fixedPart_any _ _ _ _ _ _ _ _ _ _ _ _ _ _ _ _ _ _ (by omega) (by omega) (by omega) (by omega) (by omega) (by omega)))))
    refine wpQuiet_nil ?_
    intro _ hw'
    obtain ⟨⟨dq, osq⟩, hw''⟩ := hw'
    subst hw''
    go_wp2_with fail
    go_ret
    refine ⟨?_, Below.trans HBW.out ((below_regrown W dq osq).mono HBW.out.size)⟩
    rw [HF.out]
    rfl
  · have h1 : ((Pn.row k).opc != bits BinOp.and IntKind.i64 n 127) = true := by
      have : Pn.andz n 127 = bits BinOp.and IntKind.i64 n 127 := rfl
      rw [← this]; simpa using ho
    have HF : Hid (Pn.fitsW k n = false) := by
      show Pn.fitsW k n = _
      unfold Pn.fitsW
      rw [decide_eq_false ho, Bool.false_and]
    clear ho
    go_enter Tryz.func69, Tryz.ntmps69
    go_wp2_with fail
    go_ret
    exact ⟨by rw [HF.out]; rfl, (Below.refl _ _).alloc (Nat.le_refl _) _⟩

theorem dec1_is (k b : Nat) (n : Int) (w : World) (hk : k < 64) (hb : b < w.heap.size) (hc : w.cell? ⟨b, 0, none⟩ = some (.int .i64 n)) :
    Calls Tryz.prog 68 #[.agg (Pn.irow k).toArray, .pointer (some ⟨b, 0, none⟩)] w fun e w' => e = .returned (.bool (Pn.fitsW k n)) ∧ Below w.heap.size w w' := by
  unfold Pn.irow
  go_enter Tryz.func68, Tryz.ntmps68
  go_wp2_with fail
  refine (fits_is k n _ hk).mono ?_
  rintro e w1 ⟨rfl, hB1⟩
  have HB1 : Hid (Below w.heap.size w w1) := ((Below.refl _ _).alloc (Nat.le_refl _) _).trans (hB1.mono (by simp))
  clear hB1
  go_wp2_with fail
  go_ret
  exact ⟨rfl, HB1.out⟩

end Go.Proofs.YtbmcofdodfcnnaaGreatDoor
