import Derived.Test.YtbmcofdodfcnnaaGreatDoorGFK
import Derived.Test.YtbmcofdodfcnnaaGreatDoorGAC
import Derived.Test.YtbmcofdodfcnnaaGreatDoorGU8
import Derived.Test.YtbmcofdodfcnnaaGreatDoorFJ2
import Derived.Test.YtbmcofdodfcnnaaGreatDoorGVC
namespace Pn
theorem short_ebreak : shortP ⟨64, 0, 0, 0, 0⟩ = (36866, 0) := by kernel_rfl
end Pn
namespace Go.Proofs.YtbmcofdodfcnnaaGreatDoor
open Go.RowKit
theorem pshort_any (hrd : ReadsAll) (i : Pn.Ins) (w : World) :
    Calls Tryz.prog 16 #[i.val] w fun e w' => e = .returned (.tuple #[.int .i64 (Pn.shortP i).1, .int .i64 (Pn.shortP i).2]) ∧ Below w.heap.size w w' := by
  obtain ⟨op, rd, rs1, rs2, imm⟩ := i
  have H := hid (fun w' => short_is ⟨op, rd, rs1, rs2, imm⟩ w' hrd)
  unfold Pn.Ins.val at *
  have HB := hid ((Below.refl w.heap.size w).alloc (Nat.le_refl _) (.cells #[.int .i64 op, .int .i64 rd, .int .i64 rs1, .int .i64 rs2, .int .i64 imm] 26))
  go_enter Tryz.func16, Tryz.ntmps16
  go_wp2_with fail
  refine (H.out _).mono ?_
  rintro e w1 ⟨rfl, hB⟩
  have HB1 := hid (HB.out.trans (hB.mono (by simp)))
  clear hB
  go_wp2_with fail
  go_ret2
  exact ⟨rfl, HB1.out⟩
theorem pasm_aw (w : World) (hE : Env w) :
    Calls Tryz.prog 21 #[.string awT, .bool false] w fun e w' => e = .returned (.tuple #[.string ⟨#[147, 2, 112, 0, 115, 0, 16, 0]⟩, .agg #[.int .i64 0, .int .i64 0]]) ∧ Below w.heap.size w w' := by
  have HE : Hid (Env (w.alloc (.cells #[.int .i64 0, .int .i64 0] 39))) := hid (hE.below ((Below.refl _ _).alloc (Nat.le_refl _) _) hE.1)
  clear hE
  go_enter Tryz.func21, Tryz.ntmps21
  go_wp2_with fail
  refine (aw_asm _ HE.out).mono ?_
  rintro e w1 ⟨rfl, hB1⟩
  obtain ⟨hz1, yf, yc⟩ := (CellsAt.new w [.int .i64 0, .int .i64 0] 39).next hB1
  have y0 := yc 0 _ rfl
  have y1 := yc 1 _ rfl
  have HB1 : Hid (Below w.heap.size w w1) := hid (((Below.refl _ _).alloc (Nat.le_refl _) _).trans (hB1.mono (by simp)))
  clear hB1 yc
  go_wp2_with fail
  refine bodyPost_ret (v := .tuple #[.string ⟨#[147, 2, 112, 0, 115, 0, 16, 0]⟩, .agg #[.int .i64 0, .int .i64 0]]) (by simp [results, Tryz.results21, go_sem, y0, y1]) rfl ⟨rfl, ?_⟩
  exact ((HB1.out.setCell (by simp) _).setCell (by simp) _)
def awM : List Int := mput zmem 0 [147, 2, 112, 0, 115, 0, 16, 0]
theorem aw_word0 : rdP awM 0 4 = 7340691 := by kernel_rfl
theorem aw_word1 : rdP awM 4 4 = 1048691 := by kernel_rfl
theorem aw_low0 : Pn.numN (byt awM 0 2) % 4 = 3 := by kernel_rfl
theorem aw_low1 : Pn.numN (byt awM 4 2) % 4 = 3 := by kernel_rfl
theorem aw_dec0 : Pn.dec 7340691 = (⟨29, 5, 0, 0, 7⟩, 0) := by kernel_rfl
theorem aw_dec1 : Pn.dec 1048691 = (⟨64, 0, 0, 0, 0⟩, 0) := by kernel_rfl
theorem aw_step0 (b : Nat) (T : TypeId) (w1 : World) (hm : IsM T b awM zreg 0 w1) :
    Calls Tryz.prog 48 #[.pointer (some ⟨b, 0, none⟩)] w1 fun e w' => e = .returned (evV 0 0) ∧ IsM T b awM (rset zreg 5 7) 4 w' ∧ Kept b w1 w' := by
  have hd := fun (w2 : World) (h2 : IsM T b awM zreg ((0 : Nat) : Int) w2) => do_I 1 (Or.inl rfl) b 29 0 5 7 (((0 : Nat) : Int) + 4) w2 h2 (by decide) (by decide) (by decide) (by decide) (by kernel_rfl) (by kernel_rfl) (by unfold inB; decide) (by unfold inB; decide)
  exact step_word b 0 ⟨29, 5, 0, 0, 7⟩ 0 0 w1 hm (by decide) aw_low0 (by rw [aw_word0]; exact aw_dec0) hd
theorem aw_step1 (b : Nat) (T : TypeId) (w1 : World) (hm : IsM T b awM (rset zreg 5 7) 4 w1) :
    Calls Tryz.prog 48 #[.pointer (some ⟨b, 0, none⟩)] w1 fun e w' => e = .returned (evV 5 4) ∧ IsM T b awM (rset zreg 5 7) 4 w' ∧ Kept b w1 w' :=
  step_word b 4 ⟨64, 0, 0, 0, 0⟩ 5 4 w1 hm (by decide) aw_low1 (by rw [aw_word1]; exact aw_dec1) (fun w2 h2 => do_B b _ w2 h2)
theorem aw_run (b : Nat) (T : TypeId) (w : World) (hm : IsM T b awM zreg 0 w) :
    Calls Tryz.prog 34 #[.pointer (some ⟨b, 0, none⟩), .int .i64 5] w fun e w' => e = .returned (.tuple #[evV 5 4, .int .i64 1]) ∧ IsM T b awM (rset zreg 5 7) 4 w' ∧ Kept b w w' :=
  prun_is b 5 5 4 1 w hm (fun w1 h1 => run_two b 4 w1 h1 (fun w2 h2 => aw_step0 b T w2 h2) (fun w2 h2 => aw_step1 b T w2 h2))
set_option maxRecDepth 20000 in
set_option maxHeartbeats 4000000 in
theorem awake_if (hrd : ReadsAll) (w : World) (hE : Env w) :
    Calls Tryz.prog 13 #[] w fun e w' => e = .returned (.bool true) ∧ Below w.heap.size w w' := by
  have HE := hid hE
  clear hE
  go_enter Tryz.func13, Tryz.ntmps13
  go_wp2_with fail
  refine (pencode_any (Pn.Ins.mk 1 1 2 3 0) _).mono ?_
  rintro e w1 ⟨rfl, hB1⟩
  have e1 : Pn.enc ⟨1, 1, 2, 3, 0⟩ = (3211443, 0) := by kernel_rfl
  rw [e1]
  clear e1
  have HB1 := hid hB1
  clear hB1
  go_wp2_with fail
  refine (pdecode_any 115 _).mono ?_
  rintro e w2 ⟨rfl, hB2⟩
  have e2 : Pn.dec 115 = (⟨63, 0, 0, 0, 0⟩, 0) := by kernel_rfl
  rw [e2]
  clear e2
  have HB2 := hid (HB1.out.trans (hB2.mono HB1.out.size))
  clear hB2 HB1
  unfold Pn.Ins.val
  simp only
  have HI2 := hid (CellsAt.new w2 [.int .i64 63, .int .i64 0, .int .i64 0, .int .i64 0, .int .i64 0] 26)
  have HB2' := hid (HB2.out.alloc HB2.out.size (.cells #[.int .i64 63, .int .i64 0, .int .i64 0, .int .i64 0, .int .i64 0] 26))
  have HP := hid (fun w' => pshort_any hrd (Pn.Ins.mk 64 0 0 0 0) w')
  rw [Pn.short_ebreak] at HP
  unfold Pn.Ins.val at HP
  simp only at HP
  go_wp2_with fail
  refine (HP.out _).mono ?_
  rintro e w3 ⟨rfl, hB3⟩
  have HI3 := hid (HI2.out.next hB3)
  have HB3 := hid (HB2'.out.trans (hB3.mono HB2'.out.size))
  have hIz : w.heap.size ≤ w2.heap.size := HB2.out.size
  clear hB3 HI2 HB2' HB2 HP
  go_wp2_with fail
  refine (pasm_aw _ (HE.out.below HB3.out HE.out.1)).mono ?_
  rintro e w4 ⟨rfl, hB4⟩
  have HI4 := hid (HI3.out.next hB4)
  have HB4 := hid (HB3.out.trans (hB4.mono HB3.out.size))
  clear hB4 HI3 HB3
  have HI5 := hid (HI4.out.alloc (.cells #[.int .i64 0, .int .i64 0] 39))
  have HF5 := hid (CellsAt.new w4 [.int .i64 0, .int .i64 0] 39)
  have HB5 := hid (HB4.out.alloc HB4.out.size (.cells #[.int .i64 0, .int .i64 0] 39))
  have hFz : w.heap.size ≤ w4.heap.size := HB4.out.size
  clear HI4 HB4
  go_wp2_with fail
  generalize w4.alloc _ = W5 at *
  refine (pnew_is ⟨#[147, 2, 112, 0, 115, 0, 16, 0]⟩ _ (by decide)).mono ?_
  rintro e w6 ⟨bM, rfl, hbM, hM6, hB6⟩
  have HM6 : Hid (IsM 92 bM awM zreg 0 w6) := hid hM6
  have HI6 := hid (HI5.out.next hB6)
  have HF6 := hid (HF5.out.next hB6)
  have HB6 := hid (HB5.out.trans (hB6.mono HB5.out.size))
  have hMz : w.heap.size ≤ bM := Nat.le_trans HB5.out.size hbM
  have hMi : w2.heap.size ≠ bM := by have := HI5.out.1; omega
  have hMf : w4.heap.size ≠ bM := by have := HF5.out.1; omega
  clear hM6 hB6 hbM HI5 HF5 HB5
  have f0 := HF6.out.2.2 0 _ rfl
  have f1 := HF6.out.2.2 1 _ rfl
  go_wp2_with fail
  refine (aw_run bM _ _ HM6.out).mono ?_
  rintro e w7 ⟨rfl, hM7, hK7⟩
  have HM7 := hid hM7
  have HI7 := hid (HI6.out.kept hK7 hMi)
  have HB7 := hid (hK7.below HB6.out hMz (Nat.le_refl _))
  clear hM7 hK7 HI6 HB6 HM6 HF6 f0 f1
  unfold evV
  have HM8 := hid (HM7.out.alloc (.cells #[.int .i64 5, .int .i64 4] 56))
  have HI8 := hid (HI7.out.alloc (.cells #[.int .i64 5, .int .i64 4] 56))
  have HV8 := hid (CellsAt.new w7 [.int .i64 5, .int .i64 4] 56)
  have HB8 := hid (HB7.out.alloc HB7.out.size (.cells #[.int .i64 5, .int .i64 4] 56))
  clear HM7 HI7 HB7
  go_wp2_with fail
  generalize w7.alloc _ = W8 at *
  refine (pget_in bM 5 _ HM8.out (by decide)).mono ?_
  rintro e w9 ⟨rfl, rfl⟩
  have e9 : (rset zreg 5 7).getD 5 0 = 7 := by rfl
  rw [e9]
  have i0 := HI8.out.2.2 0 _ rfl
  have i1 := HI8.out.2.2 1 _ rfl
  have i2 := HI8.out.2.2 2 _ rfl
  have i3 := HI8.out.2.2 3 _ rfl
  have i4 := HI8.out.2.2 4 _ rfl
  have v0 := HV8.out.2.2 0 _ rfl
  have v1 := HV8.out.2.2 1 _ rfl
  go_wp2_with fail
  go_ret
  exact ⟨rfl, HB8.out⟩
end Go.Proofs.YtbmcofdodfcnnaaGreatDoor
namespace Pn
theorem fok2_all : ∀ k, k < 32 → Fok2 (fm k) := by
  have h1 : ∀ k, k < 32 → 0 ≤ (fm k).rd ∧ (fm k).rd ≤ 200 := by decide
  have h2 : ∀ k, k < 32 → 0 ≤ (fm k).rs1 ∧ (fm k).rs1 ≤ 200 := by decide
  have h3 : ∀ k, k < 32 → 0 ≤ (fm k).rs2 ∧ (fm k).rs2 ≤ 200 := by decide
  have h4 : ∀ k, k < 32 → (fm k).hold < 8 := by decide
  exact fun k hk => { fok_all k hk with r1 := h1 k hk, r2 := h2 k hk, r3 := h3 k hk, h8 := h4 k hk }
end Pn
namespace Go.Proofs.YtbmcofdodfcnnaaGreatDoor
open Go.RowKit
theorem reads_all : ReadsAll := fun k hk n w => read_is' (Pn.fm k) n w (Pn.fok2_all k hk)
theorem awake_is (w : World) (hE : Env w) :
    Calls Tryz.prog 13 #[] w fun e w' => e = .returned (.bool true) ∧ Below w.heap.size w w' := awake_if reads_all w hE
end Go.Proofs.YtbmcofdodfcnnaaGreatDoor
namespace Go.Proofs.YtbmcofdodfcnnaaGreatDoor
open Go.RowKit
theorem iexpand_any (n : Int) (w : World) :
    Calls Tryz.prog 40 #[.int .i64 n] w fun e w' => e = .returned (.tuple #[(Pn.expP n).1.val, .int .i64 (Pn.expP n).2]) ∧ Below w.heap.size w w' := by
  by_cases h : n < 0 ∨ 65535 < n
  · exact expand_out n w h
  · exact expand_in n w h reads_all
end Go.Proofs.YtbmcofdodfcnnaaGreatDoor
