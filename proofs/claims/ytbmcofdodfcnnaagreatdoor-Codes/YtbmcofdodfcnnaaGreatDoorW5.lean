import Derived.Test.YtbmcofdodfcnnaaGreatDoorW4
import Derived.Test.YtbmcofdodfcnnaaGreatDoorPA
namespace Go.Proofs.YtbmcofdodfcnnaaGreatDoor
open Go.RowKit

set_option maxRecDepth 100000 in
theorem encode_not (i : Pn.Ins) (w : World) (h : Pn.right i = false) :
    Calls Tryz.prog 91 #[i.val] w fun e w' => e = .returned (.tuple #[.int .i64 0, .int .i64 1]) ∧ Below w.heap.size w w' := by
  have H : Hid (Pn.right i = false) := h
  clear h
  obtain ⟨op, rd, rs1, rs2, imm⟩ := i
  unfold Pn.Ins.val
  simp only
  go_enter Tryz.func91, Tryz.ntmps91
  go_wp2_with fail
  refine (right_any ⟨op, rd, rs1, rs2, imm⟩ _).mono ?_
  rintro e w1 ⟨rfl, hB1⟩
  rw [H.out]
  have HB1 : Hid (Below w.heap.size w w1) := ((Below.refl _ _).alloc (Nat.le_refl _) _).trans (hB1.mono (by simp))
  clear hB1
  go_wp2_with fail
  go_ret2
  exact ⟨rfl, HB1.out⟩

theorem encode_any (i : Pn.Ins) (w : World) :
    Calls Tryz.prog 91 #[i.val] w fun e w' => e = .returned (.tuple #[.int .i64 (Pn.enc i).1, .int .i64 (Pn.enc i).2]) ∧ Below w.heap.size w w' := by
  by_cases h : Pn.right i = true
  · obtain ⟨op, rd, rs1, rs2, imm⟩ := i
    have hop : 1 ≤ op ∧ op ≤ 64 := by
      apply Classical.byContradiction; intro hn
      rw [Pn.right_out _ hn] at h; cases h
    obtain ⟨k, rfl⟩ : ∃ k : Nat, op = k + 1 := ⟨(op - 1).toNat, by omega⟩
    have hk : k < 64 := by omega
    obtain ⟨⟨a1, a2⟩, ⟨a3, a4⟩, ⟨a5, a6⟩, a7, a8⟩ := Pn.right_bd hk h
    rw [Pn.enc_yes h]
    exact encode_in k rd rs1 rs2 imm w hk h a1 a2 a3 a4 a5 a6 a7 a8
  · have h' : Pn.right i = false := by simpa using h
    rw [Pn.enc_not h']
    exact encode_not i w h'

set_option maxHeartbeats 1000000 in
theorem signed_is (n size : Int) (w : World) (n0 : 0 ≤ n) (n1 : n ≤ 1099511627776) (l0 : 1 ≤ size) (l1 : size ≤ 40) :
    Calls Tryz.prog 161 #[.int .i64 n, .int .i64 size] w fun e w' => e = .returned (.int .i64 (Pn.signd n size)) ∧ w' = w := by
  have q1 : 0 < Pn.pow2 (size - 1) ∧ Pn.pow2 (size - 1) ≤ 4611686018427387904 := ⟨Pn.pow_pos _, Pn.pow_le62 (by omega)⟩
  have q2 : 0 < Pn.pow2 size ∧ Pn.pow2 size ≤ 4611686018427387904 := ⟨Pn.pow_pos _, Pn.pow_le62 (by omega)⟩
  by_cases h : Pn.pow2 (size - 1) ≤ n
  · go_enter Tryz.func161, Tryz.ntmps161
    go_wp2_with (go_at_call 158; refine (power_is _ _ (by omega) (by omega)).mono ?_; rintro e w' ⟨rfl, rfl⟩)
    go_ret
    exact ⟨ret_int (by unfold Pn.signd; rw [if_pos h]), rfl⟩
  · go_enter Tryz.func161, Tryz.ntmps161
    go_wp2_with (go_at_call 158; refine (power_is _ _ (by omega) (by omega)).mono ?_; rintro e w' ⟨rfl, rfl⟩)
    go_ret
    exact ⟨ret_int (by unfold Pn.signd; rw [if_neg (by omega)]), rfl⟩

end Go.Proofs.YtbmcofdodfcnnaaGreatDoor
