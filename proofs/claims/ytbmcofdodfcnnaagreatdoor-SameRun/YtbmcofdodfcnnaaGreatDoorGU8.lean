import Derived.Test.YtbmcofdodfcnnaaGreatDoorGU6
import Derived.Test.YtbmcofdodfcnnaaGreatDoorV10
import Derived.Test.YtbmcofdodfcnnaaGreatDoorGK
import Derived.Test.YtbmcofdodfcnnaaGreatDoorGV6
namespace Go.Proofs.YtbmcofdodfcnnaaGreatDoor
open Go.RowKit
set_option maxRecDepth 20000 in
set_option maxHeartbeats 1000000 in
theorem do_I (kd : Int) (hkk : kd = 1 ∨ kd = 2 ∨ kd = 3) (b o r1 rd : Nat) (imm p : Int) (w : World) {T : TypeId} {mem regs : List Int} {pc : Int} (h : IsM T b mem regs pc w) (h1 : r1 < 32) (hd : rd < 32)
    (o1 : 29 ≤ o) (o2 : o ≤ 41) (hv : Pn.rightV ⟨o, rd, r1, 0, imm⟩ = .tuple #[Pn.irowV (o - 1), .bool true]) (hkd : Pn.kdI (Pn.row (o - 1)).kind = kd) (x1 : inB (regs.getD r1 0)) (x2 : inB imm) :
    Calls Tryz.prog 90 #[.pointer (some ⟨b, 0, none⟩), (Pn.Ins.mk o rd r1 0 imm).val, .int .i64 p] w fun e w' => e = .returned (evV 0 0) ∧ IsM T b mem (rset regs rd (Pn.comp o (regs.getD r1 0) imm)) p w' ∧ Kept b w w' := by
  have hb := h.lt
  rcases hkk with rfl | rfl | rfl
  all_goals
    go_enter Tryz.func90, Tryz.ntmps90
    unfold Pn.Ins.val
    simp only
    go_wp2_with fail
    refine (iright_any (Pn.Ins.mk o rd r1 0 imm) _).mono ?_
    rintro e w1 ⟨rfl, hB1⟩
    have HD1 := (show Hid _ from (MDo.new h [.int .i64 o, .int .i64 rd, .int .i64 r1, .int .i64 0, .int .i64 imm] 26 56).next hB1)
    clear hB1
    have i0 := HD1.out.i.2.2 0 _ rfl
    have i1 := HD1.out.i.2.2 1 _ rfl
    have i2 := HD1.out.i.2.2 2 _ rfl
    have i3 := HD1.out.i.2.2 3 _ rfl
    have hs0 := HD1.out.i.1
    have hs1 := HD1.out.e.1
    have m1 := HD1.out.m.cellR r1 h1
    have m2 := HD1.out.m.cellR 0 (by decide)
    have mb := HD1.out.m.lt
    rw [hv]
    unfold Pn.irowV Pn.irow
    rw [hkd]
    have HO1 := (show Hid _ from x1)
    have HO2 := (show Hid _ from x2)
    clear x1 x2
    generalize hX1 : regs.getD r1 0 = X1 at *
    have HX1 := (show Hid _ from hX1)
    clear hX1
    go_wp2_with fail
    go_quiet (fail)
    go_wp2_with fail
    have hD2 := (HD1.out.alloc (.cells (Pn.irow (o - 1)).toArray 100)).drewN nq
    unfold Pn.irow at hD2
    rw [hkd] at hD2
    clear HD1 i0 i1 i2 i3 hs0 hs1 m1 m2 mb
    generalize World.drewN (w1.alloc _) nq = W2 at hD2 ⊢
    have i0 := hD2.i.2.2 0 _ rfl
    have i1 := hD2.i.2.2 1 _ rfl
    have i4 := hD2.i.2.2 4 _ rfl
    go_region_held3 (fun w' => w'.cell? ⟨w.heap.size, 0, none⟩ = some (.int .i64 o) ∧ w'.cell? ⟨w.heap.size, 1, none⟩ = some (.int .i64 rd) ∧ w'.cell? ⟨w.heap.size, 4, none⟩ = some (.int .i64 imm)) (go_keep)
      (first
        | (go_at_call 150; refine (comp_any o (by omega) (by omega) X1 imm _ HO1.out.1 HO1.out.2 HO2.out.1 HO2.out.2).mono ?_; rintro e w' ⟨rfl, rfl⟩)
        | (go_at_call 149; refine (goOn_is b rd _ _ _ (MDo.m (by first | assumption | exact MDo.drewN hD2 _)) hd).mono ?_; rintro e w' ⟨rfl, hM', hK'⟩; obtain ⟨hI', hE', hF'⟩ := do_end (by first | assumption | exact MDo.drewN hD2 _) hb hM' hK'; have q0 := hI'.2.2 0 _ rfl; have q1 := hI'.2.2 1 _ rfl; have q4 := hI'.2.2 4 _ rfl; have f0 := hE'.2.2 0 _ rfl; have f1 := hE'.2.2 1 _ rfl; have ff := hE'.2.1; unfold evV))
    have HF := (show Hid _ from hF')
    go_wp2_with fail
    refine bodyPost_ret (v := evV 0 0) (by simp [results, Tryz.results90, go_sem, evV, f0, f1]) rfl ⟨rfl, ?_⟩
    rw [HX1.out]
    exact HF.out _ _
end Go.Proofs.YtbmcofdodfcnnaaGreatDoor
namespace Go.Proofs.YtbmcofdodfcnnaaGreatDoor
open Go.RowKit
theorem leave_b (b : Nat) (p : Int) (w : World) {T : TypeId} {mem regs : List Int} {pc : Int} (h : IsM T b mem regs pc w) :
    Calls Tryz.prog 155 #[.pointer (some ⟨b, 0, none⟩), .int .i64 64, .int .i64 p] w fun e w' => e = .returned (evV 5 pc) ∧ Below w.heap.size w w' := by
  have hb := h.lt
  have hc := h.cellP
  go_enter Tryz.func155, Tryz.ntmps155
  go_wp2
  refine bodyPost_ret (v := evV 5 pc) (by simp [results, Tryz.results155, go_sem, evV]) rfl ⟨rfl, ?_⟩
  exact (Below.refl _ _).alloc (Nat.le_refl _) _
set_option maxRecDepth 20000 in
set_option maxHeartbeats 1000000 in
theorem do_B (b : Nat) (p : Int) (w : World) {T : TypeId} {mem regs : List Int} {pc : Int} (h : IsM T b mem regs pc w) :
    Calls Tryz.prog 90 #[.pointer (some ⟨b, 0, none⟩), (Pn.Ins.mk 64 0 0 0 0).val, .int .i64 p] w fun e w' => e = .returned (evV 5 pc) ∧ IsM T b mem regs pc w' ∧ Kept b w w' := by
  have hb := h.lt
  have hv : Pn.rightV ⟨64, 0, 0, 0, 0⟩ = .tuple #[Pn.irowV 63, .bool true] := rfl
  have hkd : Pn.kdI (Pn.row 63).kind = 9 := by decide
  go_enter Tryz.func90, Tryz.ntmps90
  unfold Pn.Ins.val
  simp only
  go_wp2_with fail
  refine (iright_any (Pn.Ins.mk 64 0 0 0 0) _).mono ?_
  rintro e w1 ⟨rfl, hB1⟩
  have HD1 := (show Hid _ from (MDo.new h [.int .i64 64, .int .i64 0, .int .i64 0, .int .i64 0, .int .i64 0] 26 56).next hB1)
  clear hB1
  have i0 := HD1.out.i.2.2 0 _ rfl
  have i1 := HD1.out.i.2.2 1 _ rfl
  have i2 := HD1.out.i.2.2 2 _ rfl
  have i3 := HD1.out.i.2.2 3 _ rfl
  have hs0 := HD1.out.i.1
  have hs1 := HD1.out.e.1
  have m1 := HD1.out.m.cellR 0 (by decide)
  have mb := HD1.out.m.lt
  rw [hv]
  unfold Pn.irowV Pn.irow
  rw [hkd]
  go_wp2_with fail
  go_quiet (fail)
  go_wp2_with fail
  have hD2 : ∀ o, MDo T b mem regs pc w [.int .i64 64, .int .i64 0, .int .i64 0, .int .i64 0, .int .i64 0] ((w1.alloc o).drewN nq) := fun o => (HD1.out.alloc o).drewN nq
  clear HD1 i0 i1 i2 i3 hs0 hs1 m1 mb
  refine (leave_b b p _ (hD2 _).m).mono ?_
  rintro e w3 ⟨rfl, hB3⟩
  have HD3 := (show Hid _ from (hD2 _).next hB3)
  clear hB3 hD2
  have f0 := HD3.out.e.2.2 0 _ rfl
  have f1 := HD3.out.e.2.2 1 _ rfl
  have ff := HD3.out.e.2.1
  unfold evV
  go_wp2_with fail
  refine bodyPost_ret (v := evV 5 pc) (by simp [results, Tryz.results90, go_sem, evV, f0, f1]) rfl ⟨rfl, ?_⟩
  exact (do_end HD3.out hb HD3.out.m (Kept.refl b w3)).2.2 _ _
end Go.Proofs.YtbmcofdodfcnnaaGreatDoor
namespace Go.Proofs.YtbmcofdodfcnnaaGreatDoor
open Go.RowKit
theorem size_word (b a : Nat) (w : World) {T : TypeId} {mem regs : List Int} (h : IsM T b mem regs (a : Int) w) (ha : a + 4 ≤ 4096) (h3 : Pn.numN (byt mem a 2) % 4 = 3) :
    Calls Tryz.prog 86 #[.pointer (some ⟨b, 0, none⟩)] w fun e w' => e = .returned (.int .i64 4) ∧ w' = w := by
  have hc := h.cellP
  have hh : holdsB (a : Int) 2 = true := by simp [holdsB]; omega
  have hbd := Pn.numN_bd (byt mem a 2)
  rw [byt_len (by rw [h.mlen]; omega)] at hbd
  have hq : Go.bits .and .i64 (rdP mem a 2) 3 = 3 := by
    have e1 : rdP mem a 2 = Pn.numN (byt mem a 2) := by unfold rdP; rw [IntKind.wrap_i64]; simp at hbd; omega
    rw [e1]
    exact (Pn.andz_ones _ 2 3 rfl (by decide)).trans (by simpa using h3)
  clear hbd h3
  go_enter Tryz.func86, Tryz.ntmps86
  go_wp2_with (first
    | (go_at_call 50; refine (Pc_is _ _ h).mono ?_; rintro e w' ⟨rfl, rfl⟩)
    | (go_at_call 87; refine (holds_is _ _ _ _ (by decide) (by decide)).mono ?_; rintro e w' ⟨rfl, rfl⟩)
    | (go_at_call 88; refine (read_is _ a 2 _ h (by decide) (by decide) (by omega)).mono ?_; rintro e w' ⟨rfl, rfl⟩))
  go_ret
  exact ⟨rfl, rfl⟩
theorem meaning_4 (n : Int) (w : World) :
    Calls Tryz.prog 89 #[.int .i64 n, .int .i64 4] w fun e w' => e = .returned (.tuple #[(Pn.dec n).1.val, .int .i64 (Pn.dec n).2]) ∧ Below w.heap.size w w' := by
  go_enter Tryz.func89, Tryz.ntmps89
  go_wp2_with fail
  refine (idecode_any n _).mono ?_
  rintro e w1 ⟨rfl, hB1⟩
  obtain ⟨hz1, yf, yc⟩ := (CellsAt.new w zI 26).next hB1
  have y0 := yc 0 _ rfl
  have y1 := yc 1 _ rfl
  have y2 := yc 2 _ rfl
  have y3 := yc 3 _ rfl
  have y4 := yc 4 _ rfl
  have HB1 : Hid (Below w.heap.size w w1) := ((Below.refl _ _).alloc (Nat.le_refl _) _).trans (hB1.mono (by simp))
  clear hB1 yc
  generalize hD : Pn.dec n = D
  have HD := (show Hid _ from hD)
  clear hD
  obtain ⟨⟨op, rd, rs1, rs2, imm⟩, er⟩ := D
  unfold Pn.Ins.val
  simp only
  go_wp2_with fail
  refine bodyPost_ret (v := .tuple #[(Pn.Ins.mk op rd rs1 rs2 imm).val, .int .i64 er]) (by simp [results, Tryz.results89, go_sem, y0, y1, y2, y3, y4, Pn.Ins.val]) rfl ⟨by rw [HD.out], below5'' HB1.out _ _ _ _ _⟩
end Go.Proofs.YtbmcofdodfcnnaaGreatDoor
namespace Go.Proofs.YtbmcofdodfcnnaaGreatDoor
open Go.RowKit
structure MSt (T : TypeId) (b : Nat) (mem regs : List Int) (pc : Int) (w0 : World) (w : World) : Prop where
  m : IsM T b mem regs pc w
  e : CellsAt w0.heap.size [.int .i64 0, .int .i64 0] w
  k : Kept b w0 w
theorem MSt.next {T : TypeId} {b : Nat} {mem regs : List Int} {pc : Int} {w0 w w' : World} (h : MSt T b mem regs pc w0 w) (hB : Below w.heap.size w w') : MSt T b mem regs pc w0 w' :=
  ⟨h.m.next hB, h.e.next hB, h.k.next hB⟩
theorem MSt.alloc {T : TypeId} {b : Nat} {mem regs : List Int} {pc : Int} {w0 w : World} (h : MSt T b mem regs pc w0 w) (o : Obj) : MSt T b mem regs pc w0 (w.alloc o) := h.next ((Below.refl _ _).alloc (Nat.le_refl _) _)
theorem MSt.new {T : TypeId} {b : Nat} {mem regs : List Int} {pc : Int} {w0 : World} (h : IsM T b mem regs pc w0) (t : TypeId) : MSt T b mem regs pc w0 (w0.alloc (.cells #[.int .i64 0, .int .i64 0] t)) :=
  ⟨h.alloc _, CellsAt.new w0 [.int .i64 0, .int .i64 0] t, (Kept.refl b w0).alloc _⟩
theorem MSt.fin {T : TypeId} {b : Nat} {mem mem' regs regs' : List Int} {pc p : Int} {w0 w w' : World} (h : MSt T b mem regs pc w0 w) (hb : b < w0.heap.size) (hM : IsM T b mem' regs' p w') (hK : Kept b w w') :
    CellsAt w0.heap.size [.int .i64 0, .int .i64 0] w' ∧ ∀ x y, IsM T b mem' regs' p ((w'.setCell ⟨w0.heap.size, 0, none⟩ x).setCell ⟨w0.heap.size, 1, none⟩ y) ∧ Kept b w0 ((w'.setCell ⟨w0.heap.size, 0, none⟩ x).setCell ⟨w0.heap.size, 1, none⟩ y) :=
  ⟨h.e.kept hK (by omega), fun x y => ⟨(hM.far _ _ _ (by omega)).far _ _ _ (by omega), ((h.k.trans hK).far _ _ _ (by omega)).far _ _ _ (by omega)⟩⟩
set_option maxRecDepth 20000 in
set_option maxHeartbeats 1000000 in
theorem step_word (b a : Nat) (i : Pn.Ins) (x y : Int) (w : World) {T : TypeId} {mem mem' regs regs' : List Int} {pc' : Int} (h : IsM T b mem regs (a : Int) w) (ha : a + 4 ≤ 4096) (h3 : Pn.numN (byt mem a 2) % 4 = 3)
    (hi : Pn.dec (rdP mem a 4) = (i, 0))
    (hdo : ∀ w1, IsM T b mem regs (a : Int) w1 → Calls Tryz.prog 90 #[.pointer (some ⟨b, 0, none⟩), i.val, .int .i64 (a + 4)] w1 fun e w' => e = .returned (evV x y) ∧ IsM T b mem' regs' pc' w' ∧ Kept b w1 w') :
    Calls Tryz.prog 48 #[.pointer (some ⟨b, 0, none⟩)] w fun e w' => e = .returned (evV x y) ∧ IsM T b mem' regs' pc' w' ∧ Kept b w w' := by
  have hb := h.lt
  have hh : holdsB (a : Int) 4 = true := by simp [holdsB]; omega
  have HM0 := (show Hid _ from h.alloc (.cells #[.int .i64 0, .int .i64 0] 56))
  have hc := h.cellP
  obtain ⟨op, rd, rs1, rs2, imm⟩ := i
  unfold Pn.Ins.val at hdo
  simp only at hdo
  have HDo := (show Hid _ from hdo)
  clear hdo
  go_enter Tryz.func48, Tryz.ntmps48
  go_wp2_with (first
    | (go_at_call 86; refine (size_word _ _ _ HM0.out ha h3).mono ?_; rintro e w' ⟨rfl, rfl⟩)
    | (go_at_call 50; refine (Pc_is _ _ HM0.out).mono ?_; rintro e w' ⟨rfl, rfl⟩)
    | (go_at_call 87; refine (holds_is _ _ _ _ (by decide) (by decide)).mono ?_; rintro e w' ⟨rfl, rfl⟩)
    | (go_at_call 88; refine (read_is _ a 4 _ HM0.out (by decide) (by decide) (by omega)).mono ?_; rintro e w' ⟨rfl, rfl⟩))
  refine (meaning_4 _ _).mono ?_
  rintro e w1 ⟨rfl, hB1⟩
  rw [hi]
  have HS1 := (show Hid _ from (MSt.new h 56).next hB1)
  clear hB1 hc HM0
  have hs1 := HS1.out.e.1
  have hc1 := HS1.out.m.cellP
  have hb1 := HS1.out.m.lt
  unfold Pn.Ins.val
  simp only
  go_wp2_with fail
  have HS2 := (show Hid _ from HS1.out.alloc (.cells #[.int .i64 op, .int .i64 rd, .int .i64 rs1, .int .i64 rs2, .int .i64 imm] 26))
  have hI2 := CellsAt.new w1 [.int .i64 op, .int .i64 rd, .int .i64 rs1, .int .i64 rs2, .int .i64 imm] 26
  clear hs1 hc1 HS1
  have i0 := hI2.2.2 0 _ rfl
  have i1 := hI2.2.2 1 _ rfl
  have i2 := hI2.2.2 2 _ rfl
  have i3 := hI2.2.2 3 _ rfl
  have i4 := hI2.2.2 4 _ rfl
  clear hI2
  generalize w1.alloc (.cells #[.int .i64 op, .int .i64 rd, .int .i64 rs1, .int .i64 rs2, .int .i64 imm] 26) = W2 at *
  have hc2 := HS2.out.m.cellP
  have wa : IntKind.i64.wrap ((a : Int) + 4) = a + 4 := IntWalk.i64_in _ (by omega)
  go_region_with (go_at_call 90; refine (HDo.out _ (HS2.out.m.next ((Below.refl _ _).drew))).mono ?_; rintro e w' ⟨rfl, hM', hK'⟩; obtain ⟨hE', hF'⟩ := MSt.fin (HS2.out.next ((Below.refl _ _).drew)) hb hM' hK'; have f0 := hE'.2.2 0 _ rfl; have f1 := hE'.2.2 1 _ rfl; have ff := hE'.2.1; unfold evV)
  all_goals
    have HF := (show Hid _ from hF')
    go_wp2_with fail
    refine bodyPost_ret (v := evV x y) (by simp [results, Tryz.results48, go_sem, evV, f0, f1]) rfl ⟨rfl, ?_⟩
    exact HF.out _ _
end Go.Proofs.YtbmcofdodfcnnaaGreatDoor
namespace Go.Proofs.YtbmcofdodfcnnaaGreatDoor
open Go.RowKit
def stR (r0 r1 : List Int) (k : Nat) : List Int := if k = 0 then r0 else r1
def stP (p0 p1 : Int) (k : Nat) : Int := if k = 0 then p0 else p1
set_option maxRecDepth 20000 in
set_option maxHeartbeats 1000000 in
theorem run_two (b : Nat) (y : Int) (w : World) {T : TypeId} {mem r0 r1 : List Int} {p0 p1 : Int} (h : IsM T b mem r0 p0 w)
    (h1 : ∀ w1, IsM T b mem r0 p0 w1 → Calls Tryz.prog 48 #[.pointer (some ⟨b, 0, none⟩)] w1 fun e w' => e = .returned (evV 0 0) ∧ IsM T b mem r1 p1 w' ∧ Kept b w1 w')
    (h2 : ∀ w1, IsM T b mem r1 p1 w1 → Calls Tryz.prog 48 #[.pointer (some ⟨b, 0, none⟩)] w1 fun e w' => e = .returned (evV 5 y) ∧ IsM T b mem r1 p1 w' ∧ Kept b w1 w') :
    Calls Tryz.prog 57 #[.pointer (some ⟨b, 0, none⟩), .int .i64 5] w fun e w' => e = .returned (.tuple #[evV 5 y, .int .i64 1]) ∧ IsM T b mem r1 p1 w' ∧ Kept b w w' := by
  have hb := h.lt
  have HS0 := (show Hid _ from MSt.new h 56)
  have HA := (show Hid _ from h1)
  have HC := (show Hid _ from h2)
  clear h1 h2
  go_enter Tryz.func57, Tryz.ntmps57
  go_wp2_with fail
  go_loopw [6, 10] (fun d i wr => ∃ k : Nat, k ≤ 1 ∧ d = .int .i64 k ∧ i = .int .i64 k ∧ MSt T b mem (stR r0 r1 k) (stP p0 p1 k) w wr) (fun _ i _ => 2 - (intOf i).toNat)
  case atStart => exact ⟨0, by omega, rfl, rfl, HS0.out⟩
  case round =>
    obtain ⟨k, hk, rfl, rfl, hS⟩ := hrel
    have HS := (show Hid _ from hS)
    clear hS
    by_cases h0 : k = 0
    · subst h0
      go_wp2_with fail
      refine (HA.out _ HS.out.m).mono ?_
      rintro e w1 ⟨rfl, hM1, hK1⟩
      have HS1 := (show Hid _ from (MSt.mk hM1 (HS.out.e.kept hK1 (by omega)) (HS.out.k.trans hK1) : MSt T b mem r1 p1 w w1).alloc (.cells #[.int .i64 0, .int .i64 0] 56))
      unfold evV
      go_wp2_with fail
      go_roundw
      case rel => exact ⟨1, by omega, by go_num, by go_num, HS1.out⟩
      case measure => simp [intOf]
    · have h1 : k = 1 := by omega
      subst h1
      go_wp2_with fail
      refine (HC.out _ HS.out.m).mono ?_
      rintro e w1 ⟨rfl, hM1, hK1⟩
      have HE := (show Hid _ from MSt.fin HS.out hb hM1 hK1)
      have f0 := HE.out.1.2.2 0 _ rfl
      have f1 := HE.out.1.2.2 1 _ rfl
      have ff := HE.out.1.2.1
      have fs := HE.out.1.1
      unfold evV
      go_wp2_with fail
      refine bodyPost_ret (v := .tuple #[evV 5 y, .int .i64 1]) (by simp [results, Tryz.results57, go_sem, evV, f0, f1, fs]) rfl ⟨rfl, ?_⟩
      obtain ⟨q1, q2⟩ := HE.out.2 (.int .i64 5) (.int .i64 y)
      exact ⟨q1.alloc _, q2.alloc _⟩
end Go.Proofs.YtbmcofdodfcnnaaGreatDoor
namespace Go.Proofs.YtbmcofdodfcnnaaGreatDoor
open Go.RowKit
def zmem : List Int := List.replicate 4096 0
def zreg : List Int := List.replicate 32 0
theorem zero_m : Tryz.zeroCells90 = (mcells zmem zreg 0).toArray := by kernel_rfl
theorem sizeByte : (Tryz.prog.info? 5).map (·.size) = some 1 := by kernel_rfl
set_option maxRecDepth 20000 in
set_option maxHeartbeats 1000000 in
theorem mnew_is (s : ByteArray) (w : World) (hs : s.size ≤ 4096) :
    Calls Tryz.prog 45 #[.string s] w fun e w' => e = .returned (.tuple #[.pointer (some ⟨w.heap.size, 0, none⟩), .int .i64 0]) ∧ IsM 90 w.heap.size (mput zmem 0 s.data.toList) zreg 0 w' ∧ Below w.heap.size w w' := by
  have hzs : Tryz.zeroCells90.size = 4129 := by rw [zero_m, List.size_toArray, mcells_len (by simp [zmem]) (by simp [zreg])]
  have HZ0 : Hid (IsM 90 w.heap.size zmem zreg 0 (w.alloc (.cells Tryz.zeroCells90 90))) :=
    (show IsM _ _ _ _ _ _ from ⟨by rw [heap_alloc_last, zero_m], by simp [zmem], by simp [zreg], by intro x hx; simp [zmem] at hx; omega⟩)
  have HM := (show Hid _ from HZ0.out.put 0 s.data.toList (by rw [← Lib.size_eq]; omega))
  have HR := (show Hid _ from run_copy_into (P := Tryz.prog) (w.alloc (.cells Tryz.zeroCells90 90)) 65 9 3 5 w.heap.size 0 4096 4096 s Tryz.zeroCells90 90 Tryz.underlying65 sizeByte (heap_alloc_last w _) hs (by omega))
  rw [← Lib.size_eq, ← zero_m] at HM
  generalize (Tryz.zeroCells90.toList.take 0 ++ Lib.byteCells s.data.toList ++ Tryz.zeroCells90.toList.drop (0 + s.size)).toArray = R at HM HR
  rw [World.setRow_alloc_new] at HM HR
  go_enter Tryz.func45, Tryz.ntmps45
  go_wp2_with fail
  rw [HR.out]
  go_wp2_with fail
  go_ret2
  exact ⟨rfl, HM.out, (Below.refl _ _).alloc (Nat.le_refl _) _⟩
end Go.Proofs.YtbmcofdodfcnnaaGreatDoor
namespace Go.Proofs.YtbmcofdodfcnnaaGreatDoor
open Go.RowKit
theorem zip_sets (C : List Value) : ∀ (n : Nat) (Z : Array Value), n + C.length ≤ Z.size → ((C.zipIdx n).foldl (fun cs (p : Value × Nat) => cs.setIfInBounds (0 + p.2) p.1) Z).toList = Z.toList.take n ++ C ++ Z.toList.drop (n + C.length) := by
  induction C with
  | nil => intro n Z _; simp
  | cons c C ih =>
    intro n Z h
    rw [List.zipIdx_cons, List.foldl_cons, ih (n + 1) _ (by simp at h ⊢; omega)]
    simp only [List.length_cons] at h
    have hn : n < Z.toList.length := by simp; omega
    simp only [Nat.zero_add, Array.toList_setIfInBounds]
    rw [List.take_set, List.drop_set_of_lt (by omega), List.take_succ_eq_append_getElem hn, List.set_append_right _ _ (by simp; omega)]
    simp [List.length_take, Nat.add_assoc, Nat.add_comm 1]
    rw [show n - min n Z.size = 0 by omega]
    rfl
theorem fill_whole (place : Nat → Option (Nat × Nat)) (Z C : Array Value) (h : place 0 = some (0, C.size)) (hz : Z.size = C.size) : Instr.fill place Z [(0, .agg C)] = some C := by
  have e : (Value.agg C).cells = C := rfl
  simp only [Instr.fill, h, e]
  rw [if_neg (by simp [hz])]
  congr 1
  apply Array.toList_inj.1
  rw [← Array.foldl_toList, Array.toList_zipIdx]
  have := zip_sets C.toList 0 Z (by simp [hz])
  rw [this]
  simp [hz]
theorem built_m (C : Array Value) (h : C.size = 4129) : Tryz.prog.built 92 [(0, .agg C)] = some C := by
  have h1 : ((Tryz.prog.info? 92).bind (·.zero)).map (·.cells.size) = some 4129 := by kernel_rfl
  have h2 : (match Tryz.prog.underlying 92 with
    | some (.struct fields) => fields.toList.mapM (fun f => (Tryz.prog.info? f.type).map fun i => (f.offset, i.size))
    | _ => none) = some [(0, 4129)] := by kernel_rfl
  unfold Program.built
  cases hi : Tryz.prog.info? 92 with
  | none => rw [hi] at h1; simp at h1
  | some i =>
    rw [hi] at h1
    cases hu : Tryz.prog.underlying 92 with
    | none => rw [hu] at h2; simp at h2
    | some d =>
      rw [hu] at h2
      cases d with
      | struct fields =>
        simp only at h2 ⊢
        cases hz : i.zero with
        | none => simp [hz] at h1
        | some z =>
          simp [hz] at h1
          simp only [h2]
          exact fill_whole _ _ _ (by simp [h]) (h1.trans h.symm)
      | _ => simp at h2
theorem load_m (b : Nat) (C : Array Value) (T : TypeId) (w : World) (h : w.heap[b]? = some (.cells C T (0, 0))) (hs : C.size = 4129) :
    (Instr.loadAt 90 (.pointer (some ⟨b, 0, none⟩))).run Tryz.prog w = .ok (.agg C) w := by
  have e1 : (isAgg 90).run Tryz.prog w = .ok true w := by simp [isAgg, run_underlying Tryz.underlying90]
  have e2 : (Go.sizeOf 90).run Tryz.prog w = .ok 4129 w := by
    have hi : (Tryz.prog.info? 90).map (·.size) = some 4129 := by kernel_rfl
    cases hq : Tryz.prog.info? 90 with
    | none => rw [hq] at hi; simp at hi
    | some i => rw [hq] at hi; simp at hi; simp [Go.sizeOf, typeInfo, hq, hi]
  have e3 := run_loadCells_list (P := Tryz.prog) w ⟨b, 0, none⟩ C.toList (fun j v hj => by
    have hadd : (⟨b, 0, none⟩ : Addr).add j = ⟨b, j, none⟩ := by unfold Addr.add; split <;> simp_all
    rw [hadd, cell_of_row w b j C T (0, 0) h]; simpa using hj)
  rw [Array.length_toList, hs] at e3
  simp only [Instr.loadAt, Instr.sureAddr, loadVar, Sem.run_bind, Sem.run_pure, Result.andThen, e1, e2, e3, if_true]
theorem wpList_load_m {w : World} {ops : Array Oper} {rest : List Oper} {o : Oper} {a : Act} {Q : Exit → Act → World → Prop} (hgd : o.guard = none) (p : Operand) (ho : o.op = Op.load 90 p)
    (b : Nat) (C : Array Value) (T : TypeId) (hp : a.eval p = .pointer (some ⟨b, 0, none⟩)) (h : w.heap[b]? = some (.cells C T (0, 0))) (hs : C.size = 4129)
    (hK : wpList Tryz.prog ops Q rest (a.put o.dst (.agg C)) w) : wpList Tryz.prog ops Q (o :: rest) a w := by
  refine wpList_plain hgd fun K hK' => ?_
  have hrun := load_m b C T w h hs
  unfold Oper.wp
  simp only [execOp, ho, hp]
  simp [hrun, Result.andThen]
  exact hK' _ _ hK
theorem wpList_build_m {w : World} {ops : Array Oper} {rest : List Oper} {o : Oper} {a : Act} {Q : Exit → Act → World → Prop} (hgd : o.guard = none) (p : Operand) (ho : o.op = Op.build 92 #[(0, p)])
    (C : Array Value) (hp : a.eval p = .agg C) (hs : C.size = 4129)
    (hK : wpList Tryz.prog ops Q rest (a.put o.dst (.agg C)) w) : wpList Tryz.prog ops Q (o :: rest) a w := by
  refine wpList_plain hgd fun K hK' => ?_
  have hrun := run_build w 92 #[(0, .agg C)] C (built_m C hs)
  unfold Oper.wp
  simp only [execOp, ho]
  simp [hp, hrun, Result.andThen]
  exact hK' _ _ hK
set_option maxRecDepth 20000 in
set_option maxHeartbeats 1000000 in
theorem pnew_is (s : ByteArray) (w : World) (hs : s.size ≤ 4096) :
    Calls Tryz.prog 24 #[.string s] w fun e w' => ∃ b, e = .returned (.tuple #[.pointer (some ⟨b, 0, none⟩), .int .i64 0]) ∧ w.heap.size ≤ b ∧ IsM 92 b (mput zmem 0 s.data.toList) zreg 0 w' ∧ Below w.heap.size w w' := by
  go_enter Tryz.func24, Tryz.ntmps24
  go_wp2_with fail
  refine (mnew_is s _ hs).mono ?_
  rintro e w1 ⟨rfl, hM1, hB1⟩
  have hsz := hB1.size
  have HB1 := (show Hid _ from hB1)
  have HM1 := (show Hid _ from hM1)
  clear hB1 hM1
  have hC : ∃ C : Array Value, C = (mcells (mput zmem 0 s.data.toList) zreg 0).toArray := ⟨_, rfl⟩
  obtain ⟨C, hC⟩ := hC
  have HC := (show Hid _ from hC)
  clear hC
  have hz : C.size = 4129 := by rw [HC.out, List.size_toArray, mcells_len HM1.out.mlen HM1.out.rlen]
  have HL : Hid (w1.heap[w.heap.size]? = some (.cells C 90 (0, 0))) := (show _ = _ from by rw [HC.out]; exact HM1.out.row)
  have HN : Hid (IsM 92 w1.heap.size (mput zmem 0 s.data.toList) zreg 0 (w1.alloc (.cells C 92))) :=
    (show IsM _ _ _ _ _ _ from ⟨by rw [heap_alloc_last, HC.out], HM1.out.mlen, HM1.out.rlen, HM1.out.byte⟩)
  go_wp2_with (first
    | (refine wpList_load_m rfl _ rfl w.heap.size C 90 rfl HL.out hz ?_)
    | (refine wpList_build_m rfl _ rfl C rfl hz ?_))
  go_ret2
  exact ⟨w1.heap.size, rfl, hsz, HN.out, HB1.out.alloc hsz _⟩
end Go.Proofs.YtbmcofdodfcnnaaGreatDoor
namespace Go.Proofs.YtbmcofdodfcnnaaGreatDoor
open Go.RowKit
theorem hasB_in {k : Nat} (h : k < 32) : hasB (k : Int) = true := by simp [hasB]; omega
theorem mset_in (b k : Nat) (v : Int) (w : World) {T : TypeId} {mem regs : List Int} {pc : Int} (h : IsM T b mem regs pc w) (hk : k < 32) :
    Calls Tryz.prog 47 #[.pointer (some ⟨b, 0, none⟩), .int .i64 k, .int .i64 v] w fun e w' => e = .returned (.int .i64 0) ∧ IsM T b mem (rset regs k v) pc w' ∧ Kept b w w' := by
  have hh := hasB_in hk
  refine (Set_is b k v _ h).mono ?_
  rintro e w' ⟨rfl, hw'⟩
  rw [if_pos hh]
  by_cases h0 : k = 0
  · subst h0
    simp at hw'
    subst hw'
    exact ⟨rfl, by simpa [rset] using h, Kept.refl _ _⟩
  · rw [if_pos ⟨hh, by omega⟩] at hw'
    subst hw'
    exact ⟨rfl, by unfold rset; rw [if_neg h0]; exact h.setR k hk v, Kept.setCell _ _ _ _⟩
theorem pset_in (b k : Nat) (v : Int) (w : World) {T : TypeId} {mem regs : List Int} {pc : Int} (h : IsM T b mem regs pc w) (hk : k < 32) :
    Calls Tryz.prog 25 #[.pointer (some ⟨b, 0, none⟩), .int .i64 k, .int .i64 v] w fun e w' => e = .returned (.int .i64 0) ∧ IsM T b mem (rset regs k v) pc w' ∧ Kept b w w' := by
  go_enter Tryz.func25, Tryz.ntmps25
  go_wp2_with (first
    | (go_at_call 46; refine (inner_is _ _).mono ?_; rintro e w' ⟨rfl, rfl⟩)
    | (go_at_call 47; refine (mset_in b k v _ h hk).mono ?_; rintro e w' ⟨rfl, hM', hK'⟩))
  go_ret
  exact ⟨rfl, hM', hK'⟩
theorem pget_in (b k : Nat) (w : World) {T : TypeId} {mem regs : List Int} {pc : Int} (h : IsM T b mem regs pc w) (hk : k < 32) :
    Calls Tryz.prog 30 #[.pointer (some ⟨b, 0, none⟩), .int .i64 k] w fun e w' => e = .returned (.tuple #[.int .i64 (regs.getD k 0), .int .i64 0]) ∧ w' = w := by
  have hh := hasB_in hk
  go_enter Tryz.func30, Tryz.ntmps30
  go_wp2_with (first
    | (go_at_call 46; refine (inner_is _ _).mono ?_; rintro e w' ⟨rfl, rfl⟩)
    | (go_at_call 49; refine (Get_is b k _ h).mono ?_; rw [hh]; rintro e w' ⟨rfl, rfl⟩))
  go_ret2
  exact ⟨rfl, rfl⟩
theorem pstep_is (b : Nat) (x y : Int) (w : World) {T : TypeId} {mem mem' regs regs' : List Int} {pc pc' : Int} (h : IsM T b mem regs pc w)
    (hs : ∀ w1, IsM T b mem regs pc w1 → Calls Tryz.prog 48 #[.pointer (some ⟨b, 0, none⟩)] w1 fun e w' => e = .returned (evV x y) ∧ IsM T b mem' regs' pc' w' ∧ Kept b w1 w') :
    Calls Tryz.prog 27 #[.pointer (some ⟨b, 0, none⟩)] w fun e w' => e = .returned (evV x y) ∧ IsM T b mem' regs' pc' w' ∧ Kept b w w' := by
  have hb := h.lt
  have HS0 := (show Hid _ from MSt.new h 56)
  have HS := (show Hid _ from hs)
  clear hs
  go_enter Tryz.func27, Tryz.ntmps27
  go_wp2_with (go_at_call 46; refine (inner_is _ _).mono ?_; rintro e w' ⟨rfl, rfl⟩)
  refine (HS.out _ HS0.out.m).mono ?_
  rintro e w1 ⟨rfl, hM1, hK1⟩
  have HE := (show Hid _ from MSt.fin HS0.out hb hM1 hK1)
  have f0 := HE.out.1.2.2 0 _ rfl
  have f1 := HE.out.1.2.2 1 _ rfl
  have ff := HE.out.1.2.1
  unfold evV
  go_wp2_with fail
  refine bodyPost_ret (v := evV x y) (by simp [results, Tryz.results27, go_sem, evV, f0, f1]) rfl ⟨rfl, ?_⟩
  exact HE.out.2 _ _
theorem prun_is (b : Nat) (m x y n : Int) (w : World) {T : TypeId} {mem mem' regs regs' : List Int} {pc pc' : Int} (h : IsM T b mem regs pc w)
    (hs : ∀ w1, IsM T b mem regs pc w1 → Calls Tryz.prog 57 #[.pointer (some ⟨b, 0, none⟩), .int .i64 m] w1 fun e w' => e = .returned (.tuple #[evV x y, .int .i64 n]) ∧ IsM T b mem' regs' pc' w' ∧ Kept b w1 w') :
    Calls Tryz.prog 34 #[.pointer (some ⟨b, 0, none⟩), .int .i64 m] w fun e w' => e = .returned (.tuple #[evV x y, .int .i64 n]) ∧ IsM T b mem' regs' pc' w' ∧ Kept b w w' := by
  have hb := h.lt
  have HS0 := (show Hid _ from MSt.new h 56)
  have HS := (show Hid _ from hs)
  clear hs
  go_enter Tryz.func34, Tryz.ntmps34
  go_wp2_with (go_at_call 46; refine (inner_is _ _).mono ?_; rintro e w' ⟨rfl, rfl⟩)
  refine (HS.out _ HS0.out.m).mono ?_
  rintro e w1 ⟨rfl, hM1, hK1⟩
  have HE := (show Hid _ from MSt.fin HS0.out hb hM1 hK1)
  have f0 := HE.out.1.2.2 0 _ rfl
  have f1 := HE.out.1.2.2 1 _ rfl
  have ff := HE.out.1.2.1
  unfold evV
  go_wp2_with fail
  refine bodyPost_ret (v := .tuple #[evV x y, .int .i64 n]) (by simp [results, Tryz.results34, go_sem, evV, f0, f1]) rfl ⟨rfl, ?_⟩
  exact HE.out.2 _ _
end Go.Proofs.YtbmcofdodfcnnaaGreatDoor
namespace Go.Proofs.YtbmcofdodfcnnaaGreatDoor
open Go.RowKit
theorem bytN_take (n : Nat) (x : Int) (k : Nat) (h : k ≤ n) : (Pn.bytN n x).take k = Pn.bytN k x := by
  induction n generalizing x k with
  | zero => have : k = 0 := by omega
            subst this; rfl
  | succ n ih =>
    cases k with
    | zero => rfl
    | succ k => simp only [Pn.bytN, List.take_succ_cons, ih _ k (by omega)]
end Go.Proofs.YtbmcofdodfcnnaaGreatDoor
