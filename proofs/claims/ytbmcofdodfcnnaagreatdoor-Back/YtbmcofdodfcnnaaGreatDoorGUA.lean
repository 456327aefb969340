import Derived.Test.YtbmcofdodfcnnaaGreatDoorGU8
import Derived.Test.YtbmcofdodfcnnaaGreatDoorV10
namespace Go.Proofs.YtbmcofdodfcnnaaGreatDoor
open Go.RowKit
theorem size_word (b a : Nat) (w : World) {T : TypeId} {mem regs : List Int} (h : IsM T b mem regs (a : Int) w) (ha : a + 4 ≤ 4096) (h3 : Pn.numN (byt mem a 2) % 4 = 3) :
    Calls Tryz.prog 86 #[.pointer (some ⟨b, 0, none⟩)] w fun e w' => e = .returned (.int .i64 4) ∧ w' = w := by
  have hc := h.cellP
  have hh : holdsB (a : Int) 2 = true := by simp [holdsB]; omega
  have hbd := Pn.numN_bd (byt mem a 2)
  rw [byt_len (by rw [h.mlen]; omega)] at hbd
  have hq : Go.bits .and .i64 (rdP mem a 2) 3 = 3 := by
    have e1 : rdP mem a 2 = Pn.numN (byt mem a 2) := by unfold rdP; rw [IntKind.wrap_i64]; simp at hbd; omega
    rw [e1]
    exact (Pn.andz_ones _ 2 3 rfl (by decide)).trans (by simpa using h3)
  clear hbd h3
  go_enter Tryz.func86, Tryz.ntmps86
  go_wp2_with (first
    | (go_at_call 50; refine (Pc_is _ _ h).mono ?_; rintro e w' ⟨rfl, rfl⟩)
    | (go_at_call 87; refine (holds_is _ _ _ _ (by decide) (by decide)).mono ?_; rintro e w' ⟨rfl, rfl⟩)
    | (go_at_call 88; refine (read_is _ a 2 _ h (by decide) (by decide) (by omega)).mono ?_; rintro e w' ⟨rfl, rfl⟩))
  go_ret
  exact ⟨rfl, rfl⟩
theorem meaning_4 (n : Int) (w : World) :
    Calls Tryz.prog 89 #[.int .i64 n, .int .i64 4] w fun e w' => e = .returned (.tuple #[(Pn.dec n).1.val, .int .i64 (Pn.dec n).2]) ∧ Below w.heap.size w w' := by
  go_enter Tryz.func89, Tryz.ntmps89
  go_wp2_with fail
  refine (idecode_any n _).mono ?_
  rintro e w1 ⟨rfl, hB1⟩
  obtain ⟨hz1, yf, yc⟩ := (CellsAt.new w zI 26).next hB1
  have y0 := yc 0 _ rfl
  have y1 := yc 1 _ rfl
  have y2 := yc 2 _ rfl
  have y3 := yc 3 _ rfl
  have y4 := yc 4 _ rfl
  have HB1 : Hid (Below w.heap.size w w1) := ((Below.refl _ _).alloc (Nat.le_refl _) _).trans (hB1.mono (by simp))
  clear hB1 yc
  generalize hD : Pn.dec n = D
  have HD := (show Hid _ from hD)
  clear hD
  obtain ⟨⟨op, rd, rs1, rs2, imm⟩, er⟩ := D
  unfold Pn.Ins.val
  simp only
  go_wp2_with fail
  refine bodyPost_ret (v := .tuple #[(Pn.Ins.mk op rd rs1 rs2 imm).val, .int .i64 er]) (by simp [results, Tryz.results89, go_sem, y0, y1, y2, y3, y4, Pn.Ins.val]) rfl ⟨by rw [HD.out], below5'' HB1.out _ _ _ _ _⟩
end Go.Proofs.YtbmcofdodfcnnaaGreatDoor

namespace Go.Proofs.YtbmcofdodfcnnaaGreatDoor
open Go.RowKit
structure MSt (T : TypeId) (b : Nat) (mem regs : List Int) (pc : Int) (w0 : World) (w : World) : Prop where
  m : IsM T b mem regs pc w
  e : CellsAt w0.heap.size [.int .i64 0, .int .i64 0] w
  k : Kept b w0 w
theorem MSt.next {T : TypeId} {b : Nat} {mem regs : List Int} {pc : Int} {w0 w w' : World} (h : MSt T b mem regs pc w0 w) (hB : Below w.heap.size w w') : MSt T b mem regs pc w0 w' :=
  ⟨h.m.next hB, h.e.next hB, h.k.next hB⟩
theorem MSt.alloc {T : TypeId} {b : Nat} {mem regs : List Int} {pc : Int} {w0 w : World} (h : MSt T b mem regs pc w0 w) (o : Obj) : MSt T b mem regs pc w0 (w.alloc o) := h.next ((Below.refl _ _).alloc (Nat.le_refl _) _)
theorem MSt.new {T : TypeId} {b : Nat} {mem regs : List Int} {pc : Int} {w0 : World} (h : IsM T b mem regs pc w0) (t : TypeId) : MSt T b mem regs pc w0 (w0.alloc (.cells #[.int .i64 0, .int .i64 0] t)) :=
  ⟨h.alloc _, CellsAt.new w0 [.int .i64 0, .int .i64 0] t, (Kept.refl b w0).alloc _⟩
theorem MSt.fin {T : TypeId} {b : Nat} {mem mem' regs regs' : List Int} {pc p : Int} {w0 w w' : World} (h : MSt T b mem regs pc w0 w) (hb : b < w0.heap.size) (hM : IsM T b mem' regs' p w') (hK : Kept b w w') :
    CellsAt w0.heap.size [.int .i64 0, .int .i64 0] w' ∧ ∀ x y, IsM T b mem' regs' p ((w'.setCell ⟨w0.heap.size, 0, none⟩ x).setCell ⟨w0.heap.size, 1, none⟩ y) ∧ Kept b w0 ((w'.setCell ⟨w0.heap.size, 0, none⟩ x).setCell ⟨w0.heap.size, 1, none⟩ y) :=
  ⟨h.e.kept hK (by omega), fun x y => ⟨(hM.far _ _ _ (by omega)).far _ _ _ (by omega), ((h.k.trans hK).far _ _ _ (by omega)).far _ _ _ (by omega)⟩⟩
set_option maxRecDepth 20000 in
set_option maxHeartbeats 1000000 in
theorem step_word (b a : Nat) (i : Pn.Ins) (x y : Int) (w : World) {T : TypeId} {mem mem' regs regs' : List Int} {pc' : Int} (h : IsM T b mem regs (a : Int) w) (ha : a + 4 ≤ 4096) (h3 : Pn.numN (byt mem a 2) % 4 = 3)
    (hi : Pn.dec (rdP mem a 4) = (i, 0))
    (hdo : ∀ w1, IsM T b mem regs (a : Int) w1 → Calls Tryz.prog 90 #[.pointer (some ⟨b, 0, none⟩), i.val, .int .i64 (a + 4)] w1 fun e w' => e = .returned (evV x y) ∧ IsM T b mem' regs' pc' w' ∧ Kept b w1 w') :
    Calls Tryz.prog 48 #[.pointer (some ⟨b, 0, none⟩)] w fun e w' => e = .returned (evV x y) ∧ IsM T b mem' regs' pc' w' ∧ Kept b w w' := by
  have hb := h.lt
  have hh : holdsB (a : Int) 4 = true := by simp [holdsB]; omega
  have HM0 := (show Hid _ from h.alloc (.cells #[.int .i64 0, .int .i64 0] 56))
  have hc := h.cellP
  obtain ⟨op, rd, rs1, rs2, imm⟩ := i
  unfold Pn.Ins.val at hdo
  simp only at hdo
  have HDo := (show Hid _ from hdo)
  clear hdo
  go_enter Tryz.func48, Tryz.ntmps48
  go_wp2_with (first
    | (go_at_call 86; refine (size_word _ _ _ HM0.out ha h3).mono ?_; rintro e w' ⟨rfl, rfl⟩)
    | (go_at_call 50; refine (Pc_is _ _ HM0.out).mono ?_; rintro e w' ⟨rfl, rfl⟩)
    | (go_at_call 87; refine (holds_is _ _ _ _ (by decide) (by decide)).mono ?_; rintro e w' ⟨rfl, rfl⟩)
    | (go_at_call 88; refine (read_is _ a 4 _ HM0.out (by decide) (by decide) (by omega)).mono ?_; rintro e w' ⟨rfl, rfl⟩))
  refine (meaning_4 _ _).mono ?_
  rintro e w1 ⟨rfl, hB1⟩
  rw [hi]
  have HS1 := (show Hid _ from (MSt.new h 56).next hB1)
  clear hB1 hc HM0
  have hs1 := HS1.out.e.1
  have hc1 := HS1.out.m.cellP
  have hb1 := HS1.out.m.lt
  unfold Pn.Ins.val
  simp only
  go_wp2_with fail
  have HS2 := (show Hid _ from HS1.out.alloc (.cells #[.int .i64 op, .int .i64 rd, .int .i64 rs1, .int .i64 rs2, .int .i64 imm] 26))
  have hI2 := CellsAt.new w1 [.int .i64 op, .int .i64 rd, .int .i64 rs1, .int .i64 rs2, .int .i64 imm] 26
  clear hs1 hc1 HS1
  have i0 := hI2.2.2 0 _ rfl
  have i1 := hI2.2.2 1 _ rfl
  have i2 := hI2.2.2 2 _ rfl
  have i3 := hI2.2.2 3 _ rfl
  have i4 := hI2.2.2 4 _ rfl
  clear hI2
  generalize w1.alloc (.cells #[.int .i64 op, .int .i64 rd, .int .i64 rs1, .int .i64 rs2, .int .i64 imm] 26) = W2 at *
  have hc2 := HS2.out.m.cellP
  have wa : IntKind.i64.wrap ((a : Int) + 4) = a + 4 := IntWalk.i64_in _ (by omega)
  go_region_with (go_at_call 90; refine (HDo.out _ (HS2.out.m.next ((Below.refl _ _).drew))).mono ?_; rintro e w' ⟨rfl, hM', hK'⟩; obtain ⟨hE', hF'⟩ := MSt.fin (HS2.out.next ((Below.refl _ _).drew)) hb hM' hK'; have f0 := hE'.2.2 0 _ rfl; have f1 := hE'.2.2 1 _ rfl; have ff := hE'.2.1; unfold evV)
  all_goals
    have HF := (show Hid _ from hF')
    go_wp2_with fail
    refine bodyPost_ret (v := evV x y) (by simp [results, Tryz.results48, go_sem, evV, f0, f1]) rfl ⟨rfl, ?_⟩
    exact HF.out _ _
end Go.Proofs.YtbmcofdodfcnnaaGreatDoor

namespace Go.Proofs.YtbmcofdodfcnnaaGreatDoor
open Go.RowKit
/-- a run of two steps, the second of which is no Going -/
def stR (r0 r1 : List Int) (k : Nat) : List Int := if k = 0 then r0 else r1
def stP (p0 p1 : Int) (k : Nat) : Int := if k = 0 then p0 else p1
set_option maxRecDepth 20000 in
set_option maxHeartbeats 1000000 in
theorem run_two (b : Nat) (y : Int) (w : World) {T : TypeId} {mem r0 r1 : List Int} {p0 p1 : Int} (h : IsM T b mem r0 p0 w)
    (h1 : ∀ w1, IsM T b mem r0 p0 w1 → Calls Tryz.prog 48 #[.pointer (some ⟨b, 0, none⟩)] w1 fun e w' => e = .returned (evV 0 0) ∧ IsM T b mem r1 p1 w' ∧ Kept b w1 w')
    (h2 : ∀ w1, IsM T b mem r1 p1 w1 → Calls Tryz.prog 48 #[.pointer (some ⟨b, 0, none⟩)] w1 fun e w' => e = .returned (evV 5 y) ∧ IsM T b mem r1 p1 w' ∧ Kept b w1 w') :
    Calls Tryz.prog 57 #[.pointer (some ⟨b, 0, none⟩), .int .i64 5] w fun e w' => e = .returned (.tuple #[evV 5 y, .int .i64 1]) ∧ IsM T b mem r1 p1 w' ∧ Kept b w w' := by
  have hb := h.lt
  have HS0 := (show Hid _ from MSt.new h 56)
  have HA := (show Hid _ from h1)
  have HC := (show Hid _ from h2)
  clear h1 h2
  go_enter Tryz.func57, Tryz.ntmps57
  go_wp2_with fail
  go_loopw [6, 10] (fun d i wr => ∃ k : Nat, k ≤ 1 ∧ d = .int .i64 k ∧ i = .int .i64 k ∧ MSt T b mem (stR r0 r1 k) (stP p0 p1 k) w wr) (fun _ i _ => 2 - (intOf i).toNat)
  case atStart => exact ⟨0, by omega, rfl, rfl, HS0.out⟩
  case round =>
    obtain ⟨k, hk, rfl, rfl, hS⟩ := hrel
    have HS := (show Hid _ from hS)
    clear hS
    by_cases h0 : k = 0
    · subst h0
      go_wp2_with fail
      refine (HA.out _ HS.out.m).mono ?_
      rintro e w1 ⟨rfl, hM1, hK1⟩
      have HS1 := (show Hid _ from (MSt.mk hM1 (HS.out.e.kept hK1 (by omega)) (HS.out.k.trans hK1) : MSt T b mem r1 p1 w w1).alloc (.cells #[.int .i64 0, .int .i64 0] 56))
      unfold evV
      go_wp2_with fail
      go_roundw
      case rel => exact ⟨1, by omega, by go_num, by go_num, HS1.out⟩
      case measure => simp [intOf]
    · have h1 : k = 1 := by omega
      subst h1
      go_wp2_with fail
      refine (HC.out _ HS.out.m).mono ?_
      rintro e w1 ⟨rfl, hM1, hK1⟩
      have HE := (show Hid _ from MSt.fin HS.out hb hM1 hK1)
      have f0 := HE.out.1.2.2 0 _ rfl
      have f1 := HE.out.1.2.2 1 _ rfl
      have ff := HE.out.1.2.1
      have fs := HE.out.1.1
      unfold evV
      go_wp2_with fail
      refine bodyPost_ret (v := .tuple #[evV 5 y, .int .i64 1]) (by simp [results, Tryz.results57, go_sem, evV, f0, f1, fs]) rfl ⟨rfl, ?_⟩
      obtain ⟨q1, q2⟩ := HE.out.2 (.int .i64 5) (.int .i64 y)
      exact ⟨q1.alloc _, q2.alloc _⟩
end Go.Proofs.YtbmcofdodfcnnaaGreatDoor
