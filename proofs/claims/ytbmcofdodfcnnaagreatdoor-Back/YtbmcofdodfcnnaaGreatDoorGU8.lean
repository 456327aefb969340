import Derived.Test.YtbmcofdodfcnnaaGreatDoorGU6
namespace Go.Proofs.YtbmcofdodfcnnaaGreatDoor
open Go.RowKit
set_option maxRecDepth 20000 in
set_option maxHeartbeats 1000000 in
theorem do_I (kd : Int) (hkk : kd = 1 ∨ kd = 2 ∨ kd = 3) (b o r1 rd : Nat) (imm p : Int) (w : World) {T : TypeId} {mem regs : List Int} {pc : Int} (h : IsM T b mem regs pc w) (h1 : r1 < 32) (hd : rd < 32)
    (o1 : 29 ≤ o) (o2 : o ≤ 41) (hv : Pn.rightV ⟨o, rd, r1, 0, imm⟩ = .tuple #[Pn.irowV (o - 1), .bool true]) (hkd : Pn.kdI (Pn.row (o - 1)).kind = kd) (x1 : inB (regs.getD r1 0)) (x2 : inB imm) :
    Calls Tryz.prog 90 #[.pointer (some ⟨b, 0, none⟩), (Pn.Ins.mk o rd r1 0 imm).val, .int .i64 p] w fun e w' => e = .returned (evV 0 0) ∧ IsM T b mem (rset regs rd (Pn.comp o (regs.getD r1 0) imm)) p w' ∧ Kept b w w' := by
  have hb := h.lt
  rcases hkk with rfl | rfl | rfl
  all_goals
    go_enter Tryz.func90, Tryz.ntmps90
    unfold Pn.Ins.val
    simp only
    go_wp2_with fail
    refine (iright_any (Pn.Ins.mk o rd r1 0 imm) _).mono ?_
    rintro e w1 ⟨rfl, hB1⟩
    have HD1 := (show Hid _ from (MDo.new h [.int .i64 o, .int .i64 rd, .int .i64 r1, .int .i64 0, .int .i64 imm] 26 56).next hB1)
    clear hB1
    have i0 := HD1.out.i.2.2 0 _ rfl
    have i1 := HD1.out.i.2.2 1 _ rfl
    have i2 := HD1.out.i.2.2 2 _ rfl
    have i3 := HD1.out.i.2.2 3 _ rfl
    have hs0 := HD1.out.i.1
    have hs1 := HD1.out.e.1
    have m1 := HD1.out.m.cellR r1 h1
    have m2 := HD1.out.m.cellR 0 (by decide)
    have mb := HD1.out.m.lt
    rw [hv]
    unfold Pn.irowV Pn.irow
    rw [hkd]
    have HO1 := (show Hid _ from x1)
    have HO2 := (show Hid _ from x2)
    clear x1 x2
    generalize hX1 : regs.getD r1 0 = X1 at *
    have HX1 := (show Hid _ from hX1)
    clear hX1
    go_wp2_with fail
    go_quiet (fail)
    go_wp2_with fail
    have hD2 := (HD1.out.alloc (.cells (Pn.irow (o - 1)).toArray 100)).drewN nq
    unfold Pn.irow at hD2
    rw [hkd] at hD2
    clear HD1 i0 i1 i2 i3 hs0 hs1 m1 m2 mb
    generalize World.drewN (w1.alloc _) nq = W2 at hD2 ⊢
    have i0 := hD2.i.2.2 0 _ rfl
    have i1 := hD2.i.2.2 1 _ rfl
    have i4 := hD2.i.2.2 4 _ rfl
    go_region_held3 (fun w' => w'.cell? ⟨w.heap.size, 0, none⟩ = some (.int .i64 o) ∧ w'.cell? ⟨w.heap.size, 1, none⟩ = some (.int .i64 rd) ∧ w'.cell? ⟨w.heap.size, 4, none⟩ = some (.int .i64 imm)) (go_keep)
      (first
        | (go_at_call 150; refine (comp_any o (by omega) (by omega) X1 imm _ HO1.out.1 HO1.out.2 HO2.out.1 HO2.out.2).mono ?_; rintro e w' ⟨rfl, rfl⟩)
        | (go_at_call 149; refine (goOn_is b rd _ _ _ (MDo.m (by first | assumption | exact MDo.drewN hD2 _)) hd).mono ?_; rintro e w' ⟨rfl, hM', hK'⟩; obtain ⟨hI', hE', hF'⟩ := do_end (by first | assumption | exact MDo.drewN hD2 _) hb hM' hK'; have q0 := hI'.2.2 0 _ rfl; have q1 := hI'.2.2 1 _ rfl; have q4 := hI'.2.2 4 _ rfl; have f0 := hE'.2.2 0 _ rfl; have f1 := hE'.2.2 1 _ rfl; have ff := hE'.2.1; unfold evV))
    have HF := (show Hid _ from hF')
    go_wp2_with fail
    refine bodyPost_ret (v := evV 0 0) (by simp [results, Tryz.results90, go_sem, evV, f0, f1]) rfl ⟨rfl, ?_⟩
    rw [HX1.out]
    exact HF.out _ _
end Go.Proofs.YtbmcofdodfcnnaaGreatDoor

namespace Go.Proofs.YtbmcofdodfcnnaaGreatDoor
open Go.RowKit
theorem leave_b (b : Nat) (p : Int) (w : World) {T : TypeId} {mem regs : List Int} {pc : Int} (h : IsM T b mem regs pc w) :
    Calls Tryz.prog 155 #[.pointer (some ⟨b, 0, none⟩), .int .i64 64, .int .i64 p] w fun e w' => e = .returned (evV 5 pc) ∧ Below w.heap.size w w' := by
  have hb := h.lt
  have hc := h.cellP
  go_enter Tryz.func155, Tryz.ntmps155
  go_wp2
  refine bodyPost_ret (v := evV 5 pc) (by simp [results, Tryz.results155, go_sem, evV]) rfl ⟨rfl, ?_⟩
  exact (Below.refl _ _).alloc (Nat.le_refl _) _
theorem leave_c (b : Nat) (p : Int) (w : World) {T : TypeId} {mem regs : List Int} {pc : Int} (h : IsM T b mem regs pc w) :
    Calls Tryz.prog 155 #[.pointer (some ⟨b, 0, none⟩), .int .i64 63, .int .i64 p] w fun e w' => e = .returned (evV 4 (regs.getD 17 0)) ∧ IsM T b mem regs p w' ∧ Kept b w w' := by
  have hb := h.lt
  have hc := h.cellP
  have hr := h.cellR 17 (by decide)
  have hf := h.frozen
  go_enter Tryz.func155, Tryz.ntmps155
  go_wp2
  refine bodyPost_ret (v := evV 4 (regs.getD 17 0)) (by simp [results, Tryz.results155, go_sem, evV]) rfl ⟨rfl, ?_, ?_⟩
  · exact (h.setP p).alloc _
  · exact ((Kept.refl b w).near _ _).alloc _
set_option maxRecDepth 20000 in
set_option maxHeartbeats 1000000 in
theorem do_B (b : Nat) (p : Int) (w : World) {T : TypeId} {mem regs : List Int} {pc : Int} (h : IsM T b mem regs pc w) :
    Calls Tryz.prog 90 #[.pointer (some ⟨b, 0, none⟩), (Pn.Ins.mk 64 0 0 0 0).val, .int .i64 p] w fun e w' => e = .returned (evV 5 pc) ∧ IsM T b mem regs pc w' ∧ Kept b w w' := by
  have hb := h.lt
  have hv : Pn.rightV ⟨64, 0, 0, 0, 0⟩ = .tuple #[Pn.irowV 63, .bool true] := rfl
  have hkd : Pn.kdI (Pn.row 63).kind = 9 := by decide
  go_enter Tryz.func90, Tryz.ntmps90
  unfold Pn.Ins.val
  simp only
  go_wp2_with fail
  refine (iright_any (Pn.Ins.mk 64 0 0 0 0) _).mono ?_
  rintro e w1 ⟨rfl, hB1⟩
  have HD1 := (show Hid _ from (MDo.new h [.int .i64 64, .int .i64 0, .int .i64 0, .int .i64 0, .int .i64 0] 26 56).next hB1)
  clear hB1
  have i0 := HD1.out.i.2.2 0 _ rfl
  have i1 := HD1.out.i.2.2 1 _ rfl
  have i2 := HD1.out.i.2.2 2 _ rfl
  have i3 := HD1.out.i.2.2 3 _ rfl
  have hs0 := HD1.out.i.1
  have hs1 := HD1.out.e.1
  have m1 := HD1.out.m.cellR 0 (by decide)
  have mb := HD1.out.m.lt
  rw [hv]
  unfold Pn.irowV Pn.irow
  rw [hkd]
  go_wp2_with fail
  go_quiet (fail)
  go_wp2_with fail
  have hD2 : ∀ o, MDo T b mem regs pc w [.int .i64 64, .int .i64 0, .int .i64 0, .int .i64 0, .int .i64 0] ((w1.alloc o).drewN nq) := fun o => (HD1.out.alloc o).drewN nq
  clear HD1 i0 i1 i2 i3 hs0 hs1 m1 mb
  refine (leave_b b p _ (hD2 _).m).mono ?_
  rintro e w3 ⟨rfl, hB3⟩
  have HD3 := (show Hid _ from (hD2 _).next hB3)
  clear hB3 hD2
  have f0 := HD3.out.e.2.2 0 _ rfl
  have f1 := HD3.out.e.2.2 1 _ rfl
  have ff := HD3.out.e.2.1
  unfold evV
  go_wp2_with fail
  refine bodyPost_ret (v := evV 5 pc) (by simp [results, Tryz.results90, go_sem, evV, f0, f1]) rfl ⟨rfl, ?_⟩
  exact (do_end HD3.out hb HD3.out.m (Kept.refl b w3)).2.2 _ _
end Go.Proofs.YtbmcofdodfcnnaaGreatDoor
