import Derived.Test.YtbmcofdodfcnnaaGreatDoorGP
namespace Pn
open Go
theorem opc_low : ∀ k, k < 64 → (row k).opc % 4 = 3 := by decide
/-- a word, and what is read out of it -/
structure WordOf (k : Nat) (rd rs1 rs2 imm w : Int) : Prop where
  lo : 0 ≤ w
  hi : w < 4294967296
  m4 : w % 4 = 3
  op : w % 128 = (row k).opc
  de : decIns k w = ⟨k + 1, rd, rs1, rs2, imm⟩
theorem back_S {imm x : Int} (h : -2048 ≤ imm ∧ imm ≤ 2047) (hs : (2048 ≤ imm / 32 % 128 * 32 + imm % 32 ∧ x = imm / 32 % 128 * 32 + imm % 32 - 4096) ∨ (imm / 32 % 128 * 32 + imm % 32 < 2048 ∧ x = imm / 32 % 128 * 32 + imm % 32)) : x = imm := by
  have e : imm / 32 % 128 * 32 + imm % 32 = imm % 4096 := by omega
  rw [e] at hs
  omega
theorem back_B {imm x : Int} (h : -4096 ≤ imm ∧ imm ≤ 4094) (h2 : imm % 2 = 0) (hs : (4096 ≤ imm / 4096 % 2 * 4096 + imm / 2048 % 2 * 2048 + imm / 32 % 64 * 32 + imm / 2 % 16 * 2 ∧ x = imm / 4096 % 2 * 4096 + imm / 2048 % 2 * 2048 + imm / 32 % 64 * 32 + imm / 2 % 16 * 2 - 8192) ∨ (imm / 4096 % 2 * 4096 + imm / 2048 % 2 * 2048 + imm / 32 % 64 * 32 + imm / 2 % 16 * 2 < 4096 ∧ x = imm / 4096 % 2 * 4096 + imm / 2048 % 2 * 2048 + imm / 32 % 64 * 32 + imm / 2 % 16 * 2)) : x = imm := by
  have e : imm / 4096 % 2 * 4096 + imm / 2048 % 2 * 2048 + imm / 32 % 64 * 32 + imm / 2 % 16 * 2 = imm % 8192 := by
    have e1 : imm / 2 % 16 * 2 = imm % 32 := by omega
    have e2 : imm / 32 % 64 * 32 + imm % 32 = imm % 2048 := by omega
    have e3 : imm / 2048 % 2 * 2048 + imm % 2048 = imm % 4096 := by omega
    have e4 : imm / 4096 % 2 * 4096 + imm % 4096 = imm % 8192 := by omega
    omega
  rw [e] at hs
  omega
theorem back_J {imm x : Int} (h : -1048576 ≤ imm ∧ imm ≤ 1048574) (h2 : imm % 2 = 0) (hs : (1048576 ≤ imm / 1048576 % 2 * 1048576 + imm / 4096 % 256 * 4096 + imm / 2048 % 2 * 2048 + imm / 2 % 1024 * 2 ∧ x = imm / 1048576 % 2 * 1048576 + imm / 4096 % 256 * 4096 + imm / 2048 % 2 * 2048 + imm / 2 % 1024 * 2 - 2097152) ∨ (imm / 1048576 % 2 * 1048576 + imm / 4096 % 256 * 4096 + imm / 2048 % 2 * 2048 + imm / 2 % 1024 * 2 < 1048576 ∧ x = imm / 1048576 % 2 * 1048576 + imm / 4096 % 256 * 4096 + imm / 2048 % 2 * 2048 + imm / 2 % 1024 * 2)) : x = imm := by
  have e : imm / 1048576 % 2 * 1048576 + imm / 4096 % 256 * 4096 + imm / 2048 % 2 * 2048 + imm / 2 % 1024 * 2 = imm % 2097152 := by
    have e1 : imm / 2 % 1024 * 2 = imm % 2048 := by omega
    have e2 : imm / 2048 % 2 * 2048 + imm % 2048 = imm % 4096 := by omega
    have e3 : imm / 4096 % 256 * 4096 + imm % 4096 = imm % 1048576 := by omega
    have e4 : imm / 1048576 % 2 * 1048576 + imm % 1048576 = imm % 2097152 := by omega
    omega
  rw [e] at hs
  omega
theorem word_R {k : Nat} {rd rs1 rs2 imm : Int} (hk : k < 64) (hr : right ⟨k + 1, rd, rs1, rs2, imm⟩ = true) (h : (row k).kind = 82) : WordOf k rd rs1 rs2 imm (encR k rd rs1 rs2 imm) := by
  have hb := row_bd k hk
  have ho := opc_low k hk
  have hg := row_g0 k hk
  rw [right_succ _ _ _ _ _ hk, h] at hr
  rw [h] at hg
  simp [has, register, between, fitsImm] at hr hg
  rw [encR_R _ _ _ _ _ h]
  have hd := fun w => decIns_R k w h
  simp only [be_11_7, be_19_15, be_24_20] at hd
  generalize hdd : decIns k = D at *
  generalize hoe : (row k).opc = o at *; generalize (row k).f = f at *; generalize (row k).g = g at *
  refine ⟨by omega, by omega, by omega, by rw [hoe]; omega, ?_⟩
  rw [hdd, hd]
  simp only [Ins.mk.injEq, true_and]
  exact ⟨by omega, by omega, by omega, by omega⟩
theorem word_I {k : Nat} {rd rs1 rs2 imm : Int} (hk : k < 64) (hr : right ⟨k + 1, rd, rs1, rs2, imm⟩ = true) (h : (row k).kind = 73) : WordOf k rd rs1 rs2 imm (encR k rd rs1 rs2 imm) := by
  have hb := row_bd k hk
  have ho := opc_low k hk
  have hg := row_g0 k hk
  rw [right_succ _ _ _ _ _ hk, h] at hr
  rw [h] at hg
  simp [has, register, between, fitsImm] at hr hg
  rw [encR_I _ _ _ _ _ h]
  simp only [be_11_0]
  have hd := fun w => decIns_I k w h
  simp only [be_11_7, be_19_15, be_31_20] at hd
  generalize hdd : decIns k = D at *
  generalize hoe : (row k).opc = o at *; generalize (row k).f = f at *; generalize (row k).g = g at *
  refine ⟨by omega, by omega, by omega, by rw [hoe]; omega, ?_⟩
  rw [hdd, hd]
  simp only [Ins.mk.injEq, true_and]
  have q0 : (o + rd * 128 + rs1 * 32768 + rs2 * 1048576 + f * 4096 + imm % 4096 * 1048576) / 1048576 % 4096 = imm % 4096 := by omega
  rw [q0]
  have hs := sg_12 (imm % 4096)
  generalize signd (imm % 4096) _ = x at *
  exact ⟨by omega, by omega, by omega, by omega⟩
theorem word_L {k : Nat} {rd rs1 rs2 imm : Int} (hk : k < 64) (hr : right ⟨k + 1, rd, rs1, rs2, imm⟩ = true) (h : (row k).kind = 76) : WordOf k rd rs1 rs2 imm (encR k rd rs1 rs2 imm) := by
  have hb := row_bd k hk
  have ho := opc_low k hk
  have hg := row_g0 k hk
  rw [right_succ _ _ _ _ _ hk, h] at hr
  rw [h] at hg
  simp [has, register, between, fitsImm] at hr hg
  rw [encR_L _ _ _ _ _ h]
  simp only [be_11_0]
  have hd := fun w => decIns_L k w h
  simp only [be_11_7, be_19_15, be_31_20] at hd
  generalize hdd : decIns k = D at *
  generalize hoe : (row k).opc = o at *; generalize (row k).f = f at *; generalize (row k).g = g at *
  refine ⟨by omega, by omega, by omega, by rw [hoe]; omega, ?_⟩
  rw [hdd, hd]
  simp only [Ins.mk.injEq, true_and]
  have q0 : (o + rd * 128 + rs1 * 32768 + rs2 * 1048576 + f * 4096 + imm % 4096 * 1048576) / 1048576 % 4096 = imm % 4096 := by omega
  rw [q0]
  have hs := sg_12 (imm % 4096)
  generalize signd (imm % 4096) _ = x at *
  exact ⟨by omega, by omega, by omega, by omega⟩
theorem word_H {k : Nat} {rd rs1 rs2 imm : Int} (hk : k < 64) (hr : right ⟨k + 1, rd, rs1, rs2, imm⟩ = true) (h : (row k).kind = 72) : WordOf k rd rs1 rs2 imm (encR k rd rs1 rs2 imm) := by
  have hb := row_bd k hk
  have ho := opc_low k hk
  have hg := row_g0 k hk
  rw [right_succ _ _ _ _ _ hk, h] at hr
  rw [h] at hg
  simp [has, register, between, fitsImm] at hr hg
  rw [encR_H _ _ _ _ _ h]
  have hd := fun w => decIns_H k w h
  simp only [be_11_7, be_19_15, be_25_20] at hd
  generalize hdd : decIns k = D at *
  generalize hoe : (row k).opc = o at *; generalize (row k).f = f at *; generalize (row k).g = g at *
  refine ⟨by omega, by omega, by omega, by rw [hoe]; omega, ?_⟩
  rw [hdd, hd]
  simp only [Ins.mk.injEq, true_and]
  exact ⟨by omega, by omega, by omega, by omega⟩
theorem word_W {k : Nat} {rd rs1 rs2 imm : Int} (hk : k < 64) (hr : right ⟨k + 1, rd, rs1, rs2, imm⟩ = true) (h : (row k).kind = 87) : WordOf k rd rs1 rs2 imm (encR k rd rs1 rs2 imm) := by
  have hb := row_bd k hk
  have ho := opc_low k hk
  have hg := row_g0 k hk
  rw [right_succ _ _ _ _ _ hk, h] at hr
  rw [h] at hg
  simp [has, register, between, fitsImm] at hr hg
  rw [encR_W _ _ _ _ _ h]
  have hd := fun w => decIns_W k w h
  simp only [be_11_7, be_19_15, be_24_20] at hd
  generalize hdd : decIns k = D at *
  generalize hoe : (row k).opc = o at *; generalize (row k).f = f at *; generalize (row k).g = g at *
  refine ⟨by omega, by omega, by omega, by rw [hoe]; omega, ?_⟩
  rw [hdd, hd]
  simp only [Ins.mk.injEq, true_and]
  exact ⟨by omega, by omega, by omega, by omega⟩
theorem word_S {k : Nat} {rd rs1 rs2 imm : Int} (hk : k < 64) (hr : right ⟨k + 1, rd, rs1, rs2, imm⟩ = true) (h : (row k).kind = 83) : WordOf k rd rs1 rs2 imm (encR k rd rs1 rs2 imm) := by
  have hb := row_bd k hk
  have ho := opc_low k hk
  have hg := row_g0 k hk
  rw [right_succ _ _ _ _ _ hk, h] at hr
  rw [h] at hg
  simp [has, register, between, fitsImm] at hr hg
  rw [encR_S _ _ _ _ _ h]
  simp only [be_11_5, be_4_0]
  have hd := fun w => decIns_S k w h
  simp only [be_19_15, be_24_20, be_31_25, be_11_7] at hd
  generalize hdd : decIns k = D at *
  generalize hoe : (row k).opc = o at *; generalize (row k).f = f at *; generalize (row k).g = g at *
  have hs := sg_12 (imm / 32 % 128 * 32 + imm % 32)
  generalize hx : signd (imm / 32 % 128 * 32 + imm % 32) _ = x at hs
  have hxe : x = imm := back_S (by omega) hs
  rw [hxe] at hx
  clear hs hxe
  have bA : 0 ≤ imm / 32 % 128 ∧ imm / 32 % 128 ≤ 127 := by omega
  have bC : 0 ≤ imm % 32 ∧ imm % 32 ≤ 31 := by omega
  generalize imm / 32 % 128 = A at *
  generalize imm % 32 = C at *
  refine ⟨by omega, by omega, by omega, by rw [hoe]; omega, ?_⟩
  rw [hdd, hd]
  simp only [Ins.mk.injEq, true_and]
  have q0 : (o + rd * 128 + rs1 * 32768 + rs2 * 1048576 + f * 4096 + A * 33554432 + C * 128) / 33554432 % 128 = A := by omega
  have q1 : (o + rd * 128 + rs1 * 32768 + rs2 * 1048576 + f * 4096 + A * 33554432 + C * 128) / 128 % 32 = C := by omega
  rw [q0, q1, hx]
  exact ⟨by omega, by omega, by omega, rfl⟩
theorem word_B {k : Nat} {rd rs1 rs2 imm : Int} (hk : k < 64) (hr : right ⟨k + 1, rd, rs1, rs2, imm⟩ = true) (h : (row k).kind = 66) : WordOf k rd rs1 rs2 imm (encR k rd rs1 rs2 imm) := by
  have hb := row_bd k hk
  have ho := opc_low k hk
  have hg := row_g0 k hk
  rw [right_succ _ _ _ _ _ hk, h] at hr
  rw [h] at hg
  simp [has, register, between, fitsImm] at hr hg
  rw [encR_B _ _ _ _ _ h]
  simp only [be_12_12, be_10_5, be_4_1, be_11_11]
  have hd := fun w => decIns_B k w h
  simp only [be_19_15, be_24_20, be_31_31, be_7_7, be_30_25, be_11_8] at hd
  generalize hdd : decIns k = D at *
  generalize hoe : (row k).opc = o at *; generalize (row k).f = f at *; generalize (row k).g = g at *
  have hs := sg_13 (imm / 4096 % 2 * 4096 + imm / 2048 % 2 * 2048 + imm / 32 % 64 * 32 + imm / 2 % 16 * 2)
  generalize hx : signd (imm / 4096 % 2 * 4096 + imm / 2048 % 2 * 2048 + imm / 32 % 64 * 32 + imm / 2 % 16 * 2) _ = x at hs
  have h2 : imm % 2 = 0 := by
    have ht : imm.tmod 2 = 0 := by simp only [hr]
    rw [Int.tmod_eq_emod] at ht
    split at ht <;> omega
  have hxe : x = imm := back_B (by omega) h2 hs
  rw [hxe] at hx
  clear hs hxe
  have bA : 0 ≤ imm / 4096 % 2 ∧ imm / 4096 % 2 ≤ 1 := by omega
  have bC : 0 ≤ imm / 32 % 64 ∧ imm / 32 % 64 ≤ 63 := by omega
  have bE : 0 ≤ imm / 2 % 16 ∧ imm / 2 % 16 ≤ 15 := by omega
  have bF : 0 ≤ imm / 2048 % 2 ∧ imm / 2048 % 2 ≤ 1 := by omega
  generalize imm / 4096 % 2 = A at *
  generalize imm / 32 % 64 = C at *
  generalize imm / 2 % 16 = E at *
  generalize imm / 2048 % 2 = F at *
  refine ⟨by omega, by omega, by omega, by rw [hoe]; omega, ?_⟩
  rw [hdd, hd]
  simp only [Ins.mk.injEq, true_and]
  have q0 : (o + rd * 128 + rs1 * 32768 + rs2 * 1048576 + f * 4096 + A * 2147483648 + C * 33554432 + E * 256 + F * 128) / 2147483648 % 2 = A := by omega
  have q1 : (o + rd * 128 + rs1 * 32768 + rs2 * 1048576 + f * 4096 + A * 2147483648 + C * 33554432 + E * 256 + F * 128) / 128 % 2 = F := by omega
  have q2 : (o + rd * 128 + rs1 * 32768 + rs2 * 1048576 + f * 4096 + A * 2147483648 + C * 33554432 + E * 256 + F * 128) / 33554432 % 64 = C := by omega
  have q3 : (o + rd * 128 + rs1 * 32768 + rs2 * 1048576 + f * 4096 + A * 2147483648 + C * 33554432 + E * 256 + F * 128) / 256 % 16 = E := by omega
  rw [q0, q1, q2, q3, hx]
  exact ⟨by omega, by omega, by omega, rfl⟩
theorem word_U {k : Nat} {rd rs1 rs2 imm : Int} (hk : k < 64) (hr : right ⟨k + 1, rd, rs1, rs2, imm⟩ = true) (h : (row k).kind = 85) : WordOf k rd rs1 rs2 imm (encR k rd rs1 rs2 imm) := by
  have hb := row_bd k hk
  have ho := opc_low k hk
  have hg := row_g0 k hk
  rw [right_succ _ _ _ _ _ hk, h] at hr
  rw [h] at hg
  simp [has, register, between, fitsImm] at hr hg
  rw [encR_U _ _ _ _ _ h]
  simp only [be_19_0]
  have hd := fun w => decIns_U k w h
  simp only [be_11_7, be_31_12] at hd
  generalize hdd : decIns k = D at *
  generalize hoe : (row k).opc = o at *; generalize (row k).f = f at *; generalize (row k).g = g at *
  refine ⟨by omega, by omega, by omega, by rw [hoe]; omega, ?_⟩
  rw [hdd, hd]
  simp only [Ins.mk.injEq, true_and]
  have q0 : (o + rd * 128 + rs1 * 32768 + rs2 * 1048576 + imm % 1048576 * 4096) / 4096 % 1048576 = imm % 1048576 := by omega
  rw [q0]
  have hs := sg_20 (imm % 1048576)
  generalize signd (imm % 1048576) _ = x at *
  exact ⟨by omega, by omega, by omega, by omega⟩
theorem word_J {k : Nat} {rd rs1 rs2 imm : Int} (hk : k < 64) (hr : right ⟨k + 1, rd, rs1, rs2, imm⟩ = true) (h : (row k).kind = 74) : WordOf k rd rs1 rs2 imm (encR k rd rs1 rs2 imm) := by
  have hb := row_bd k hk
  have ho := opc_low k hk
  have hg := row_g0 k hk
  rw [right_succ _ _ _ _ _ hk, h] at hr
  rw [h] at hg
  simp [has, register, between, fitsImm] at hr hg
  rw [encR_J _ _ _ _ _ h]
  simp only [be_20_20, be_10_1, be_11_11, be_19_12]
  have hd := fun w => decIns_J k w h
  simp only [be_11_7, be_31_31, be_19_12, be_20_20, be_30_21] at hd
  generalize hdd : decIns k = D at *
  generalize hoe : (row k).opc = o at *; generalize (row k).f = f at *; generalize (row k).g = g at *
  have hs := sg_21 (imm / 1048576 % 2 * 1048576 + imm / 4096 % 256 * 4096 + imm / 2048 % 2 * 2048 + imm / 2 % 1024 * 2)
  generalize hx : signd (imm / 1048576 % 2 * 1048576 + imm / 4096 % 256 * 4096 + imm / 2048 % 2 * 2048 + imm / 2 % 1024 * 2) _ = x at hs
  have h2 : imm % 2 = 0 := by
    have ht : imm.tmod 2 = 0 := by simp only [hr]
    rw [Int.tmod_eq_emod] at ht
    split at ht <;> omega
  have hxe : x = imm := back_J (by omega) h2 hs
  rw [hxe] at hx
  clear hs hxe
  have bA : 0 ≤ imm / 1048576 % 2 ∧ imm / 1048576 % 2 ≤ 1 := by omega
  have bC : 0 ≤ imm / 2 % 1024 ∧ imm / 2 % 1024 ≤ 1023 := by omega
  have bE : 0 ≤ imm / 2048 % 2 ∧ imm / 2048 % 2 ≤ 1 := by omega
  have bF : 0 ≤ imm / 4096 % 256 ∧ imm / 4096 % 256 ≤ 255 := by omega
  generalize imm / 1048576 % 2 = A at *
  generalize imm / 2 % 1024 = C at *
  generalize imm / 2048 % 2 = E at *
  generalize imm / 4096 % 256 = F at *
  refine ⟨by omega, by omega, by omega, by rw [hoe]; omega, ?_⟩
  rw [hdd, hd]
  simp only [Ins.mk.injEq, true_and]
  have q0 : (o + rd * 128 + rs1 * 32768 + rs2 * 1048576 + A * 2147483648 + C * 2097152 + E * 1048576 + F * 4096) / 2147483648 % 2 = A := by omega
  have q1 : (o + rd * 128 + rs1 * 32768 + rs2 * 1048576 + A * 2147483648 + C * 2097152 + E * 1048576 + F * 4096) / 4096 % 256 = F := by omega
  have q2 : (o + rd * 128 + rs1 * 32768 + rs2 * 1048576 + A * 2147483648 + C * 2097152 + E * 1048576 + F * 4096) / 1048576 % 2 = E := by omega
  have q3 : (o + rd * 128 + rs1 * 32768 + rs2 * 1048576 + A * 2147483648 + C * 2097152 + E * 1048576 + F * 4096) / 2097152 % 1024 = C := by omega
  rw [q0, q1, q2, q3, hx]
  exact ⟨by omega, by omega, by omega, rfl⟩
theorem word_N {k : Nat} {rd rs1 rs2 imm : Int} (hk : k < 64) (hr : right ⟨k + 1, rd, rs1, rs2, imm⟩ = true) (h : (row k).kind = 78) : WordOf k rd rs1 rs2 imm (encR k rd rs1 rs2 imm) := by
  have hb := row_bd k hk
  have ho := opc_low k hk
  have hg := row_g0 k hk
  rw [right_succ _ _ _ _ _ hk, h] at hr
  rw [h] at hg
  simp [has, register, fitsImm] at hr hg
  rw [encR_N _ _ _ _ _ h]
  have hd := fun w => decIns_N k w h
  generalize hdd : decIns k = D at *
  generalize hoe : (row k).opc = o at *; generalize (row k).f = f at *; generalize (row k).g = g at *
  refine ⟨by omega, by omega, by omega, by rw [hoe]; omega, ?_⟩
  rw [hdd, hd]
  simp only [Ins.mk.injEq, true_and]
  exact ⟨by omega, by omega, by omega, by omega⟩
end Pn

namespace Pn
open Go
theorem word_of {k : Nat} {rd rs1 rs2 imm : Int} (hk : k < 64) (hr : right ⟨k + 1, rd, rs1, rs2, imm⟩ = true) : WordOf k rd rs1 rs2 imm (encR k rd rs1 rs2 imm) := by
  rcases kinds k hk with h | h | h | h | h | h | h | h | h | h
  · exact word_R hk hr h
  · exact word_I hk hr h
  · exact word_L hk hr h
  · exact word_H hk hr h
  · exact word_W hk hr h
  · exact word_S hk hr h
  · exact word_B hk hr h
  · exact word_U hk hr h
  · exact word_J hk hr h
  · exact word_N hk hr h
def mN (k : Nat) : Nat := (fixm (row k).kind).toNat
def xN (k : Nat) : Nat := (fixw (row k).opc (row k).f (row k).g (2 ^ gpos (row k).kind)).toNat
theorem uniq : ∀ j, j < 64 → ∀ k, k < 64 → j ≠ k → ¬ (xN j &&& mN k = xN k &&& mN j) := by decide +kernel
theorem mN_bd : ∀ k, k < 64 → mN k < 2 ^ 62 ∧ 0 ≤ fixm (row k).kind := by decide +kernel
theorem fits_nat (n k : Nat) (hn : n < 4294967296) (hk : k < 64) (h : fitsW k n = true) : n &&& mN k = xN k := by
  unfold fitsW at h
  rw [Bool.and_eq_true, decide_eq_true_eq, decide_eq_true_eq] at h
  have hm := mN_bd k hk
  have e : fixm (row k).kind = ((mN k : Nat) : Int) := by unfold mN; omega
  have h2 := h.2
  rw [e] at h2
  have ha : andz n (mN k : Int) = ((n &&& mN k : Nat) : Int) := (bits_nat .i64 62 (by decide) wraps_i64 n (mN k) (by omega) hm.1).1
  rw [ha] at h2
  unfold xN
  rw [← h2]
  simp
theorem hit_uniq {w : Int} {j k : Nat} (h0 : 0 ≤ w) (h1 : w < 4294967296) (hj : j < 64) (hk : k < 64) (hhj : decHit w j = true) (hhk : decHit w k = true) : j = k := by
  obtain ⟨n, rfl⟩ := Int.eq_ofNat_of_zero_le h0
  rw [← fits_hit _ _ hj h0 h1] at hhj
  rw [← fits_hit _ _ hk h0 h1] at hhk
  have ej := fits_nat n j (by omega) hj hhj
  have ek := fits_nat n k (by omega) hk hhk
  by_cases hjk : j = k
  · exact hjk
  · refine absurd ?_ (uniq j hj k hk hjk)
    rw [← ej, ← ek, Nat.and_assoc, Nat.and_assoc, Nat.and_comm (mN j)]
theorem right_op {i : Ins} (h : right i = true) : ∃ k : Nat, k < 64 ∧ i.op = k + 1 := by
  by_cases hb : 1 ≤ i.op ∧ i.op ≤ 64
  · exact ⟨(i.op - 1).toNat, by omega, by omega⟩
  · rw [right_out i hb] at h; cases h
/-- what is written as a word is read again -/
theorem dec_enc {i : Ins} (h : right i = true) : dec (enc i).1 = (i, 0) ∧ (enc i).2 = 0 ∧ (enc i).1 % 4 = 3 ∧ 0 ≤ (enc i).1 ∧ (enc i).1 < 4294967296 := by
  obtain ⟨k, hk, ho⟩ := right_op h
  obtain ⟨op, rd, rs1, rs2, imm⟩ := i
  simp only at ho
  subst ho
  have hw := word_of hk h
  rw [enc_yes h]
  refine ⟨?_, rfl, hw.m4, hw.lo, hw.hi⟩
  have hh : decHit (encR k rd rs1 rs2 imm) k = true := by
    unfold decHit
    rw [hw.de, enc_yes h, be_6_0, hw.op]
    simp
  rw [dec_hit hw.lo hw.hi hk (fun j hj => ?_) hh, hw.de]
  by_cases hc : decHit (encR k rd rs1 rs2 imm) j = true
  · have := hit_uniq hw.lo hw.hi (by omega) hk hc hh; omega
  · simpa using hc
/-- what is read of a word is written as that word -/
theorem enc_dec {w : Int} {x : Ins} (h : dec w = (x, 0)) : enc x = (w, 0) := by
  by_cases ho : w < 0 ∨ 4294967296 ≤ w
  · rw [dec_out ho] at h; simp at h
  · unfold dec at h
    rw [if_neg ho] at h
    split at h
    · rename_i k hk
      have hp := List.find?_some hk
      simp only [Prod.mk.injEq] at h
      rw [← h.1]
      unfold decHit at hp
      simp at hp
      exact Prod.ext hp.2 hp.1.2
    · simp at h
end Pn
