import Derived.Test.YtbmcofdodfcnnaaGreatDoorGUI
import Derived.Test.YtbmcofdodfcnnaaGreatDoorGAW
namespace Pn
def brB (op : Int) (a b : Int) : Bool :=
  if op = 54 then decide (a = b) else if op = 55 then a != b else if op = 56 then decide (a < b) else if op = 57 then decide (b ≤ a)
  else if op = 58 then decide (Go.IntKind.u64.wrap a < Go.IntKind.u64.wrap b) else decide (Go.IntKind.u64.wrap b ≤ Go.IntKind.u64.wrap a)
end Pn
namespace Go.Proofs.YtbmcofdodfcnnaaGreatDoor
open Go.RowKit
theorem branches_is (o : Nat) (o1 : 54 ≤ o) (o2 : o ≤ 59) (a b : Int) (w : World) :
    Calls Tryz.prog 153 #[.int .i64 o, .int .i64 a, .int .i64 b] w fun e w' => e = .returned (.bool (Pn.brB o a b)) ∧ w' = w := by
  have hc : o = 54 ∨ o = 55 ∨ o = 56 ∨ o = 57 ∨ o = 58 ∨ o = 59 := by omega
  rcases hc with rfl | rfl | rfl | rfl | rfl | rfl
  all_goals
    go_enter Tryz.func153, Tryz.ntmps153
    go_wp2
    go_ret
    refine ⟨?_, rfl⟩
    congr 2
    first | done | simp [Pn.brB]
set_option maxRecDepth 20000 in
set_option maxHeartbeats 1000000 in
theorem do_Br (b o r1 r2 : Nat) (imm p q : Int) (w : World) {T : TypeId} {mem regs : List Int} {pc : Int} (h : IsM T b mem regs pc w) (h1 : r1 < 32) (h2 : r2 < 32)
    (o1 : 54 ≤ o) (o2 : o ≤ 59) (hv : Pn.rightV ⟨o, 0, r1, r2, imm⟩ = .tuple #[Pn.irowV (o - 1), .bool true]) (hkd : Pn.kdI (Pn.row (o - 1)).kind = 6) (hq : IntKind.i64.wrap (pc + imm) = q)
    (z : Int) (hz : (if Pn.brB o (regs.getD r1 0) (regs.getD r2 0) = true then q else p) = z) :
    Calls Tryz.prog 90 #[.pointer (some ⟨b, 0, none⟩), (Pn.Ins.mk o 0 r1 r2 imm).val, .int .i64 p] w fun e w' => e = .returned (evV 0 0) ∧ IsM T b mem regs z w' ∧ Kept b w w' := by
  have hb := h.lt
  go_enter Tryz.func90, Tryz.ntmps90
  unfold Pn.Ins.val
  simp only
  go_wp2_with fail
  refine (iright_any (Pn.Ins.mk o 0 r1 r2 imm) _).mono ?_
  rintro e w1 ⟨rfl, hB1⟩
  have HD1 := (show Hid _ from (MDo.new h [.int .i64 o, .int .i64 0, .int .i64 r1, .int .i64 r2, .int .i64 imm] 26 56).next hB1)
  clear hB1
  have i0 := HD1.out.i.2.2 0 _ rfl
  have i1 := HD1.out.i.2.2 1 _ rfl
  have i2 := HD1.out.i.2.2 2 _ rfl
  have i3 := HD1.out.i.2.2 3 _ rfl
  have hs0 := HD1.out.i.1
  have hs1 := HD1.out.e.1
  have m1 := HD1.out.m.cellR r1 h1
  have m2 := HD1.out.m.cellR r2 h2
  have mb := HD1.out.m.lt
  rw [hv]
  unfold Pn.irowV Pn.irow
  rw [hkd]
  generalize hX1 : regs.getD r1 0 = X1 at *
  generalize hX2 : regs.getD r2 0 = X2 at *
  clear hX1 hX2
  have HBr := hid (fun w' => branches_is o o1 o2 X1 X2 w')
  have HZ := hid hz
  clear hz
  have hq2 : wrap64 (pc + imm) = q := (wrap64_eq _).trans hq
  go_wp2_with fail
  go_quiet (fail)
  go_wp2_with fail
  have hD2 := (HD1.out.alloc (.cells (Pn.irow (o - 1)).toArray 100)).drewN nq
  unfold Pn.irow at hD2
  rw [hkd] at hD2
  clear HD1 i0 i1 i2 i3 hs0 hs1 m1 m2 mb
  generalize World.drewN (w1.alloc _) nq = W2 at hD2 ⊢
  have i0 := hD2.i.2.2 0 _ rfl
  have i1 := hD2.i.2.2 1 _ rfl
  have i4 := hD2.i.2.2 4 _ rfl
  have mp := hD2.m.cellP
  go_wp2_with fail
  refine (HBr.out _).mono ?_
  rintro e w' ⟨rfl, rfl⟩
  have hz := HZ.out
  clear HZ HBr
  generalize Pn.brB o X1 X2 = BB at hz ⊢
  have hd0 : (0 : Nat) < 32 := by decide
  cases BB
  · rw [if_neg (by decide)] at hz
    subst hz
    go_wp2_with fail
    refine (goOn_is b 0 _ _ _ hD2.m hd0).mono ?_
    rintro e w' ⟨rfl, hM', hK'⟩
    obtain ⟨hI', hE', hF'⟩ := do_end hD2 hb hM' hK'
    have f0 := hE'.2.2 0 _ rfl
    have f1 := hE'.2.2 1 _ rfl
    have ff := hE'.2.1
    have HF := hid hF'
    clear hF' hI' hE' hM' hK'
    unfold evV
    go_wp2_with fail
    refine bodyPost_ret (v := evV 0 0) (by simp [results, Tryz.results90, go_sem, evV, f0, f1]) rfl ⟨rfl, ?_⟩
    exact HF.out _ _
  · rw [if_pos rfl] at hz
    subst hz
    go_wp2_with fail
    go_region_with (first
      | (go_at_call 149; refine (goOn_is b 0 _ _ _ (MDo.m (by first | exact hD2 | exact MDo.drewN hD2 _ | exact hD2.next ((Below.refl _ _).drew))) hd0).mono ?_; rintro e w' ⟨rfl, hM', hK'⟩; obtain ⟨hI', hE', hF'⟩ := do_end (by first | exact hD2 | exact MDo.drewN hD2 _ | exact hD2.next ((Below.refl _ _).drew)) hb hM' hK'; have f0 := hE'.2.2 0 _ rfl; have f1 := hE'.2.2 1 _ rfl; have ff := hE'.2.1; unfold evV))
    all_goals
      have HF := hid hF'
      clear hF' hI' hE' hM' hK'
      go_wp2_with fail
      refine bodyPost_ret (v := evV 0 0) (by simp [results, Tryz.results90, go_sem, evV, f0, f1]) rfl ⟨rfl, ?_⟩
      exact HF.out _ _
end Go.Proofs.YtbmcofdodfcnnaaGreatDoor
namespace Go.Proofs.YtbmcofdodfcnnaaGreatDoor
open Go.RowKit
theorem upper_lui (b : Nat) (rd imm v : Int) (w : World) {T : TypeId} {mem regs : List Int} {pc : Int} (h : IsM T b mem regs pc w) (hv : IntKind.i64.wrap (imm * 4096) = v) :
    Calls Tryz.prog 154 #[.pointer (some ⟨b, 0, none⟩), (Pn.Ins.mk 60 rd 0 0 imm).val] w fun e w' => e = .returned (.int .i64 v) ∧ Below w.heap.size w w' := by
  have hb := h.lt
  have hv2 : wrap64 (imm * 4096) = v := (wrap64_eq _).trans hv
  go_enter Tryz.func154, Tryz.ntmps154
  unfold Pn.Ins.val
  simp only
  go_wp2
  go_ret
  exact ⟨rfl, (Below.refl _ _).alloc (Nat.le_refl _) _⟩
set_option maxRecDepth 20000 in
set_option maxHeartbeats 1000000 in
theorem do_U (b rd : Nat) (imm p v : Int) (w : World) {T : TypeId} {mem regs : List Int} {pc : Int} (h : IsM T b mem regs pc w) (hd : rd < 32)
    (hv : Pn.rightV ⟨60, rd, 0, 0, imm⟩ = .tuple #[Pn.irowV 59, .bool true]) (hkd : Pn.kdI (Pn.row 59).kind = 7) (hvv : IntKind.i64.wrap (imm * 4096) = v) :
    Calls Tryz.prog 90 #[.pointer (some ⟨b, 0, none⟩), (Pn.Ins.mk 60 rd 0 0 imm).val, .int .i64 p] w fun e w' => e = .returned (evV 0 0) ∧ IsM T b mem (rset regs rd v) p w' ∧ Kept b w w' := by
  have hb := h.lt
  have HUp := hid (fun w' (h' : IsM T b mem regs pc w') => upper_lui b rd imm v w' h' hvv)
  unfold Pn.Ins.val at HUp
  simp only at HUp
  go_enter Tryz.func90, Tryz.ntmps90
  unfold Pn.Ins.val
  simp only
  go_wp2_with fail
  refine (iright_any (Pn.Ins.mk 60 rd 0 0 imm) _).mono ?_
  rintro e w1 ⟨rfl, hB1⟩
  have HD1 := (show Hid _ from (MDo.new h [.int .i64 60, .int .i64 rd, .int .i64 0, .int .i64 0, .int .i64 imm] 26 56).next hB1)
  clear hB1
  have i0 := HD1.out.i.2.2 0 _ rfl
  have i1 := HD1.out.i.2.2 1 _ rfl
  have i2 := HD1.out.i.2.2 2 _ rfl
  have i3 := HD1.out.i.2.2 3 _ rfl
  have hs0 := HD1.out.i.1
  have hs1 := HD1.out.e.1
  have m1 := HD1.out.m.cellR 0 (by decide)
  have mb := HD1.out.m.lt
  rw [hv]
  unfold Pn.irowV Pn.irow
  rw [hkd]
  go_wp2_with fail
  go_quiet (fail)
  go_wp2_with fail
  generalize hW2 : World.drewN (w1.alloc _) nq = W2
  have hD2 : MDo T b mem regs pc w [.int .i64 60, .int .i64 rd, .int .i64 0, .int .i64 0, .int .i64 imm] W2 := by rw [← hW2]; exact (HD1.out.alloc _).drewN nq
  clear hW2 HD1 i0 i1 i2 i3 hs0 hs1 m1 mb
  have i0 := hD2.i.2.2 0 _ rfl
  have i1 := hD2.i.2.2 1 _ rfl
  have i2 := hD2.i.2.2 2 _ rfl
  have i3 := hD2.i.2.2 3 _ rfl
  have i4 := hD2.i.2.2 4 _ rfl
  go_wp2_with fail
  have hD3 := hD2
  go_region_held3 (fun w' => w'.cell? ⟨w.heap.size, 0, none⟩ = some (.int .i64 60) ∧ w'.cell? ⟨w.heap.size, 1, none⟩ = some (.int .i64 rd) ∧ w'.cell? ⟨w.heap.size, 2, none⟩ = some (.int .i64 0) ∧ w'.cell? ⟨w.heap.size, 3, none⟩ = some (.int .i64 0) ∧ w'.cell? ⟨w.heap.size, 4, none⟩ = some (.int .i64 imm)) (go_keep)
    (first
      | (go_at_call 154; refine (HUp.out _ (MDo.m (by first | exact hD2 | exact MDo.drewN hD2 _ | exact hD2.next ((Below.refl _ _).drew)))).mono ?_; rintro e w' ⟨rfl, hB'⟩; have hD3 := MDo.next (by first | exact hD2 | exact MDo.drewN hD2 _ | exact hD2.next ((Below.refl _ _).drew)) hB'; have q0 := hD3.i.2.2 0 _ rfl; have q1 := hD3.i.2.2 1 _ rfl; have q2 := hD3.i.2.2 2 _ rfl; have q3 := hD3.i.2.2 3 _ rfl; have q4 := hD3.i.2.2 4 _ rfl)
      | (go_at_call 149; refine (goOn_is b rd _ _ _ hD3.m hd).mono ?_; rintro e w' ⟨rfl, hM', hK'⟩; obtain ⟨hI', hE', hF'⟩ := do_end hD3 hb hM' hK'; have q0 := hI'.2.2 0 _ rfl; have q1 := hI'.2.2 1 _ rfl; have q2 := hI'.2.2 2 _ rfl; have q3 := hI'.2.2 3 _ rfl; have q4 := hI'.2.2 4 _ rfl; have f0 := hE'.2.2 0 _ rfl; have f1 := hE'.2.2 1 _ rfl; have ff := hE'.2.1; unfold evV))
  all_goals
    have HF := hid hF'
    clear hF' hI' hE' hM' hK'
    go_wp2_with fail
    refine bodyPost_ret (v := evV 0 0) (by simp [results, Tryz.results90, go_sem, evV, f0, f1]) rfl ⟨rfl, ?_⟩
    exact HF.out _ _
set_option maxRecDepth 20000 in
set_option maxHeartbeats 1000000 in
theorem do_J (b rd : Nat) (imm p q : Int) (w : World) {T : TypeId} {mem regs : List Int} {pc : Int} (h : IsM T b mem regs pc w) (hd : rd < 32)
    (hv : Pn.rightV ⟨62, rd, 0, 0, imm⟩ = .tuple #[Pn.irowV 61, .bool true]) (hkd : Pn.kdI (Pn.row 61).kind = 8) (hq : IntKind.i64.wrap (pc + imm) = q) :
    Calls Tryz.prog 90 #[.pointer (some ⟨b, 0, none⟩), (Pn.Ins.mk 62 rd 0 0 imm).val, .int .i64 p] w fun e w' => e = .returned (evV 0 0) ∧ IsM T b mem (rset regs rd p) q w' ∧ Kept b w w' := by
  have hb := h.lt
  go_enter Tryz.func90, Tryz.ntmps90
  unfold Pn.Ins.val
  simp only
  go_wp2_with fail
  refine (iright_any (Pn.Ins.mk 62 rd 0 0 imm) _).mono ?_
  rintro e w1 ⟨rfl, hB1⟩
  have HD1 := (show Hid _ from (MDo.new h [.int .i64 62, .int .i64 rd, .int .i64 0, .int .i64 0, .int .i64 imm] 26 56).next hB1)
  clear hB1
  have i0 := HD1.out.i.2.2 0 _ rfl
  have i1 := HD1.out.i.2.2 1 _ rfl
  have i2 := HD1.out.i.2.2 2 _ rfl
  have i3 := HD1.out.i.2.2 3 _ rfl
  have hs0 := HD1.out.i.1
  have hs1 := HD1.out.e.1
  have m1 := HD1.out.m.cellR 0 (by decide)
  have mb := HD1.out.m.lt
  rw [hv]
  unfold Pn.irowV Pn.irow
  rw [hkd]
  have hq2 : wrap64 (pc + imm) = q := (wrap64_eq _).trans hq
  go_wp2_with fail
  go_quiet (fail)
  go_wp2_with fail
  generalize hW2 : World.drewN (w1.alloc _) nq = W2
  have hD2 : MDo T b mem regs pc w [.int .i64 62, .int .i64 rd, .int .i64 0, .int .i64 0, .int .i64 imm] W2 := by rw [← hW2]; exact (HD1.out.alloc _).drewN nq
  clear hW2 HD1 i0 i1 i2 i3 hs0 hs1 m1 mb
  have i0 := hD2.i.2.2 0 _ rfl
  have i1 := hD2.i.2.2 1 _ rfl
  have i4 := hD2.i.2.2 4 _ rfl
  have mp := hD2.m.cellP
  go_wp2_with fail
  go_region_with (first
    | (go_at_call 149; refine (goOn_is b rd _ _ _ (MDo.m (by first | exact hD2 | exact MDo.drewN hD2 _ | exact hD2.next ((Below.refl _ _).drew))) hd).mono ?_; rintro e w' ⟨rfl, hM', hK'⟩; obtain ⟨hI', hE', hF'⟩ := do_end (by first | exact hD2 | exact MDo.drewN hD2 _ | exact hD2.next ((Below.refl _ _).drew)) hb hM' hK'; have f0 := hE'.2.2 0 _ rfl; have f1 := hE'.2.2 1 _ rfl; have ff := hE'.2.1; unfold evV))
  all_goals
    have HF := hid hF'
    clear hF' hI' hE' hM' hK'
    go_wp2_with fail
    refine bodyPost_ret (v := evV 0 0) (by simp [results, Tryz.results90, go_sem, evV, f0, f1]) rfl ⟨rfl, ?_⟩
    exact HF.out _ _
end Go.Proofs.YtbmcofdodfcnnaaGreatDoor
namespace Go.Proofs.YtbmcofdodfcnnaaGreatDoor
open Go.RowKit
theorem size_half (b a : Nat) (w : World) {T : TypeId} {mem regs : List Int} (h : IsM T b mem regs (a : Int) w) (ha : a + 2 ≤ 4096) (h3 : ¬ Pn.numN (byt mem a 2) % 4 = 3) :
    Calls Tryz.prog 86 #[.pointer (some ⟨b, 0, none⟩)] w fun e w' => e = .returned (.int .i64 2) ∧ w' = w := by
  have hc := h.cellP
  have hh : holdsB (a : Int) 2 = true := by simp [holdsB]; omega
  have hbd := Pn.numN_bd (byt mem a 2)
  rw [byt_len (by rw [h.mlen]; omega)] at hbd
  have hq : ¬ Go.bits .and .i64 (rdP mem a 2) 3 = 3 := by
    have e1 : rdP mem a 2 = Pn.numN (byt mem a 2) := by unfold rdP; rw [IntKind.wrap_i64]; simp at hbd; omega
    rw [e1]
    have e2 : Go.bits .and .i64 (Pn.numN (byt mem a 2)) 3 = Pn.numN (byt mem a 2) % 2 ^ 2 := Pn.andz_ones (Pn.numN (byt mem a 2)) 2 3 rfl (by decide)
    intro e3
    rw [e3] at e2
    exact h3 (by simpa using e2.symm)
  clear hbd h3
  go_enter Tryz.func86, Tryz.ntmps86
  go_wp2_with (first
    | (go_at_call 50; refine (Pc_is _ _ h).mono ?_; rintro e w' ⟨rfl, rfl⟩)
    | (go_at_call 87; refine (holds_is _ _ _ _ (by decide) (by decide)).mono ?_; rintro e w' ⟨rfl, rfl⟩)
    | (go_at_call 88; refine (read_is _ a 2 _ h (by decide) (by decide) (by omega)).mono ?_; rintro e w' ⟨rfl, rfl⟩))
  go_ret
  exact ⟨rfl, rfl⟩
theorem meaning_2 (n : Int) (w : World) :
    Calls Tryz.prog 89 #[.int .i64 n, .int .i64 2] w fun e w' => e = .returned (.tuple #[(Pn.expP n).1.val, .int .i64 (Pn.expP n).2]) ∧ Below w.heap.size w w' := by
  go_enter Tryz.func89, Tryz.ntmps89
  go_wp2_with fail
  refine (iexpand_any n _).mono ?_
  rintro e w1 ⟨rfl, hB1⟩
  obtain ⟨hz1, yf, yc⟩ := (CellsAt.new w zI 26).next hB1
  have y0 := yc 0 _ rfl
  have y1 := yc 1 _ rfl
  have y2 := yc 2 _ rfl
  have y3 := yc 3 _ rfl
  have y4 := yc 4 _ rfl
  have HB1 : Hid (Below w.heap.size w w1) := ((Below.refl _ _).alloc (Nat.le_refl _) _).trans (hB1.mono (by simp))
  clear hB1 yc
  generalize hD : Pn.expP n = D
  have HD := (show Hid _ from hD)
  clear hD
  obtain ⟨⟨op, rd, rs1, rs2, imm⟩, er⟩ := D
  unfold Pn.Ins.val
  simp only
  go_wp2_with fail
  refine bodyPost_ret (v := .tuple #[(Pn.Ins.mk op rd rs1 rs2 imm).val, .int .i64 er]) (by simp [results, Tryz.results89, go_sem, y0, y1, y2, y3, y4, Pn.Ins.val]) rfl ⟨by rw [HD.out], below5'' HB1.out _ _ _ _ _⟩
set_option maxRecDepth 20000 in
set_option maxHeartbeats 1000000 in
theorem step_half (b a : Nat) (i : Pn.Ins) (x y : Int) (w : World) {T : TypeId} {mem mem' regs regs' : List Int} {pc' : Int} (h : IsM T b mem regs (a : Int) w) (ha : a + 2 ≤ 4096) (h3 : ¬ Pn.numN (byt mem a 2) % 4 = 3)
    (hi : Pn.expP (rdP mem a 2) = (i, 0))
    (hdo : ∀ w1, IsM T b mem regs (a : Int) w1 → Calls Tryz.prog 90 #[.pointer (some ⟨b, 0, none⟩), i.val, .int .i64 (a + 2)] w1 fun e w' => e = .returned (evV x y) ∧ IsM T b mem' regs' pc' w' ∧ Kept b w1 w') :
    Calls Tryz.prog 48 #[.pointer (some ⟨b, 0, none⟩)] w fun e w' => e = .returned (evV x y) ∧ IsM T b mem' regs' pc' w' ∧ Kept b w w' := by
  have hb := h.lt
  have hh : holdsB (a : Int) 2 = true := by simp [holdsB]; omega
  have HM0 := (show Hid _ from h.alloc (.cells #[.int .i64 0, .int .i64 0] 56))
  have hc := h.cellP
  obtain ⟨op, rd, rs1, rs2, imm⟩ := i
  unfold Pn.Ins.val at hdo
  simp only at hdo
  have HDo := (show Hid _ from hdo)
  clear hdo
  go_enter Tryz.func48, Tryz.ntmps48
  go_wp2_with (first
    | (go_at_call 86; refine (size_half _ _ _ HM0.out ha h3).mono ?_; rintro e w' ⟨rfl, rfl⟩)
    | (go_at_call 50; refine (Pc_is _ _ HM0.out).mono ?_; rintro e w' ⟨rfl, rfl⟩)
    | (go_at_call 87; refine (holds_is _ _ _ _ (by decide) (by decide)).mono ?_; rintro e w' ⟨rfl, rfl⟩)
    | (go_at_call 88; refine (read_is _ a 2 _ HM0.out (by decide) (by decide) (by omega)).mono ?_; rintro e w' ⟨rfl, rfl⟩))
  refine (meaning_2 _ _).mono ?_
  rintro e w1 ⟨rfl, hB1⟩
  rw [hi]
  have HS1 := (show Hid _ from (MSt.new h 56).next hB1)
  clear hB1 hc HM0
  have hs1 := HS1.out.e.1
  have hc1 := HS1.out.m.cellP
  have hb1 := HS1.out.m.lt
  unfold Pn.Ins.val
  simp only
  go_wp2_with fail
  have HS2 := (show Hid _ from HS1.out.alloc (.cells #[.int .i64 op, .int .i64 rd, .int .i64 rs1, .int .i64 rs2, .int .i64 imm] 26))
  have hI2 := CellsAt.new w1 [.int .i64 op, .int .i64 rd, .int .i64 rs1, .int .i64 rs2, .int .i64 imm] 26
  clear hs1 hc1 HS1
  have i0 := hI2.2.2 0 _ rfl
  have i1 := hI2.2.2 1 _ rfl
  have i2 := hI2.2.2 2 _ rfl
  have i3 := hI2.2.2 3 _ rfl
  have i4 := hI2.2.2 4 _ rfl
  clear hI2
  generalize w1.alloc (.cells #[.int .i64 op, .int .i64 rd, .int .i64 rs1, .int .i64 rs2, .int .i64 imm] 26) = W2 at *
  have hc2 := HS2.out.m.cellP
  have wa : IntKind.i64.wrap ((a : Int) + 2) = a + 2 := IntWalk.i64_in _ (by omega)
  go_region_with (go_at_call 90; refine (HDo.out _ (HS2.out.m.next ((Below.refl _ _).drew))).mono ?_; rintro e w' ⟨rfl, hM', hK'⟩; obtain ⟨hE', hF'⟩ := MSt.fin (HS2.out.next ((Below.refl _ _).drew)) hb hM' hK'; have f0 := hE'.2.2 0 _ rfl; have f1 := hE'.2.2 1 _ rfl; have ff := hE'.2.1; unfold evV)
  all_goals
    have HF := (show Hid _ from hF')
    go_wp2_with fail
    refine bodyPost_ret (v := evV x y) (by simp [results, Tryz.results48, go_sem, evV, f0, f1]) rfl ⟨rfl, ?_⟩
    exact HF.out _ _
end Go.Proofs.YtbmcofdodfcnnaaGreatDoor
