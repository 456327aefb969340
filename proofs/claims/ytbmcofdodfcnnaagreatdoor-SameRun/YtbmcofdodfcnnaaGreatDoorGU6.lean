import Derived.Test.YtbmcofdodfcnnaaGreatDoorGU4
import Derived.Test.YtbmcofdodfcnnaaGreatDoorGV6
namespace Go.Proofs.YtbmcofdodfcnnaaGreatDoor
open Go.RowKit
def rset (regs : List Int) (k : Nat) (v : Int) : List Int := if k = 0 then regs else regs.set k v
def evV (k v : Int) : Value := .agg #[.int .i64 k, .int .i64 v]
end Go.Proofs.YtbmcofdodfcnnaaGreatDoor
namespace Go
open Go.RowKit
theorem IsM.far {T : TypeId} {b : Nat} {mem regs : List Int} {pc : Int} {w : World} (h : IsM T b mem regs pc w) (c q : Nat) (v : Value) (hc : c ≠ b) : IsM T b mem regs pc (w.setCell ⟨c, q, none⟩ v) :=
  ⟨(Below.heap_setCell _ _ _ _ (fun e => hc e.symm)).trans h.row, h.mlen, h.rlen, h.byte⟩
theorem IsM.alloc {T : TypeId} {b : Nat} {mem regs : List Int} {pc : Int} {w : World} (h : IsM T b mem regs pc w) (o : Obj) : IsM T b mem regs pc (w.alloc o) := h.next ((Below.refl _ _).alloc (Nat.le_refl _) _)
theorem Kept.far {b : Nat} {w0 w : World} (h : Kept b w0 w) (c q : Nat) (v : Value) (hc : w0.heap.size ≤ c) : Kept b w0 (w.setCell ⟨c, q, none⟩ v) :=
  ⟨h.os, h.tape, h.output, by have := h.size; simpa [World.setCell] using this, fun k hk hb => (Below.heap_setCell _ _ _ _ (fun e => by have : k = c := e; omega)).trans (h.block k hk hb)⟩
theorem Kept.alloc {b : Nat} {w0 w : World} (h : Kept b w0 w) (o : Obj) : Kept b w0 (w.alloc o) := h.trans (Kept.of_below ((Below.refl _ _).alloc (Nat.le_refl _) _) b)
theorem Kept.near {b : Nat} {w0 w : World} (h : Kept b w0 w) (q : Nat) (v : Value) : Kept b w0 (w.setCell ⟨b, q, none⟩ v) := h.trans (Kept.setCell b w q v)
theorem Kept.next {b : Nat} {w0 w w' : World} (h : Kept b w0 w) (hB : Below w.heap.size w w') : Kept b w0 w' := h.trans (Kept.of_below hB b)
end Go
namespace Go.Proofs.YtbmcofdodfcnnaaGreatDoor
open Go.RowKit
set_option maxHeartbeats 400000 in
theorem goOn_is (b k : Nat) (v p : Int) (w : World) {T : TypeId} {mem regs : List Int} {pc : Int} (h : IsM T b mem regs pc w) (hk : k < 32) :
    Calls Tryz.prog 149 #[.pointer (some ⟨b, 0, none⟩), .int .i64 k, .int .i64 v, .int .i64 p] w fun e w' => e = .returned (evV 0 0) ∧ IsM T b mem (rset regs k v) p w' ∧ Kept b w w' := by
  have hb := h.lt
  have hf := h.frozen
  have hc := h.cellP
  by_cases h0 : k = 0
  · subst h0
    go_enter Tryz.func149, Tryz.ntmps149
    go_wp2_with (go_at_call 85; refine (put_0 _ _ _).mono ?_; rintro e w' ⟨rfl, rfl⟩)
    refine bodyPost_ret (v := evV 0 0) (by simp [results, Tryz.results149, go_sem, evV]) rfl ⟨rfl, ?_, ?_⟩
    · exact (h.setP p).alloc _
    · exact ((Kept.refl b w).near _ _).alloc _
  · have hcr := h.cellR k hk
    go_enter Tryz.func149, Tryz.ntmps149
    go_wp2_with (go_at_call 85; refine (put_n _ k _ _ (h.alloc _) (by omega) hk).mono ?_; rintro e w' ⟨rfl, rfl⟩)
    refine bodyPost_ret (v := evV 0 0) (by simp [results, Tryz.results149, go_sem, evV]) rfl ⟨rfl, ?_, ?_⟩
    · have := ((h.setR k hk v).setP p).alloc (.cells #[.int .i64 0, .int .i64 0] 56)
      unfold rset
      rw [if_neg h0]
      exact this
    · exact (((Kept.refl b w).near _ _).near _ _).alloc _
end Go.Proofs.YtbmcofdodfcnnaaGreatDoor
namespace Go.Proofs.YtbmcofdodfcnnaaGreatDoor
open Go.RowKit
theorem comp_any (k : Nat) (k1 : 1 ≤ k) (k2 : k ≤ 41) (a b : Int) (w : World) (a0 : -9223372036854775808 ≤ a) (a1 : a < 9223372036854775808) (b0 : -9223372036854775808 ≤ b) (b1 : b < 9223372036854775808) :
    Calls Tryz.prog 150 #[.int .i64 k, .int .i64 a, .int .i64 b] w fun e w' => e = .returned (.int .i64 (Pn.comp k a b)) ∧ w' = w := by
  match k, k1, k2 with
  | 1, _, _ => exact comp_1 a b w a0 a1 b0 b1
  | 2, _, _ => exact comp_2 a b w a0 a1 b0 b1
  | 3, _, _ => exact comp_3 a b w a0 a1 b0 b1
  | 4, _, _ => exact comp_4 a b w a0 a1 b0 b1
  | 5, _, _ => exact comp_5 a b w a0 a1 b0 b1
  | 6, _, _ => exact comp_6 a b w a0 a1 b0 b1
  | 7, _, _ => exact comp_7 a b w a0 a1 b0 b1
  | 8, _, _ => exact comp_8 a b w a0 a1 b0 b1
  | 9, _, _ => exact comp_9 a b w a0 a1 b0 b1
  | 10, _, _ => exact comp_10 a b w a0 a1 b0 b1
  | 11, _, _ => exact comp_11 a b w a0 a1 b0 b1
  | 12, _, _ => exact comp_12 a b w a0 a1 b0 b1
  | 13, _, _ => exact comp_13 a b w a0 a1 b0 b1
  | 14, _, _ => exact comp_14 a b w a0 a1 b0 b1
  | 15, _, _ => exact comp_15 a b w a0 a1 b0 b1
  | 16, _, _ => exact comp_16 a b w a0 a1 b0 b1
  | 17, _, _ => exact comp_17 a b w a0 a1 b0 b1
  | 18, _, _ => exact comp_18 a b w a0 a1 b0 b1
  | 19, _, _ => exact comp_19 a b w a0 a1 b0 b1
  | 20, _, _ => exact comp_20 a b w a0 a1 b0 b1
  | 21, _, _ => exact comp_21 a b w a0 a1 b0 b1
  | 22, _, _ => exact comp_22 a b w a0 a1 b0 b1
  | 23, _, _ => exact comp_23 a b w a0 a1 b0 b1
  | 24, _, _ => exact comp_24 a b w a0 a1 b0 b1
  | 25, _, _ => exact comp_25 a b w a0 a1 b0 b1
  | 26, _, _ => exact comp_26 a b w a0 a1 b0 b1
  | 27, _, _ => exact comp_27 a b w a0 a1 b0 b1
  | 28, _, _ => exact comp_28 a b w a0 a1 b0 b1
  | 29, _, _ => exact comp_29 a b w a0 a1 b0 b1
  | 30, _, _ => exact comp_30 a b w a0 a1 b0 b1
  | 31, _, _ => exact comp_31 a b w a0 a1 b0 b1
  | 32, _, _ => exact comp_32 a b w a0 a1 b0 b1
  | 33, _, _ => exact comp_33 a b w a0 a1 b0 b1
  | 34, _, _ => exact comp_34 a b w a0 a1 b0 b1
  | 35, _, _ => exact comp_35 a b w a0 a1 b0 b1
  | 36, _, _ => exact comp_36 a b w a0 a1 b0 b1
  | 37, _, _ => exact comp_37 a b w a0 a1 b0 b1
  | 38, _, _ => exact comp_38 a b w a0 a1 b0 b1
  | 39, _, _ => exact comp_39 a b w a0 a1 b0 b1
  | 40, _, _ => exact comp_40 a b w a0 a1 b0 b1
  | 41, _, _ => exact comp_41 a b w a0 a1 b0 b1
  | k + 42, _, h => exact absurd h (by omega)
def inB (x : Int) : Prop := -9223372036854775808 ≤ x ∧ x < 9223372036854775808
theorem drewN_b (w : World) (k : Nat) : Below w.heap.size w (w.drewN k) := below_drewN (Below.refl _ _) k
end Go.Proofs.YtbmcofdodfcnnaaGreatDoor
namespace Go
open Go.RowKit
theorem CellsAt.kept {b c : Nat} {vs : List Value} {w w' : World} (h : CellsAt c vs w) (hk : Kept b w w') (hc : c ≠ b) : CellsAt c vs w' := by
  have e := hk.block c h.1 hc
  exact ⟨Nat.lt_of_lt_of_le h.1 hk.size, fun q => (World.frozen?_of_block (a := ⟨c, q, none⟩) e).trans (h.2.1 q), fun j v hj => (World.cell?_of_block (a := ⟨c, j, none⟩) e).trans (h.2.2 j v hj)⟩
end Go
namespace Go.Proofs.YtbmcofdodfcnnaaGreatDoor
open Go.RowKit
structure MDo (T : TypeId) (b : Nat) (mem regs : List Int) (pc : Int) (w0 : World) (i : List Value) (w : World) : Prop where
  m : IsM T b mem regs pc w
  i : CellsAt w0.heap.size i w
  e : CellsAt (w0.heap.size + 1) [.int .i64 0, .int .i64 0] w
  k : Kept b w0 w
theorem MDo.next {T : TypeId} {b : Nat} {mem regs : List Int} {pc : Int} {w0 w w' : World} {i : List Value} (h : MDo T b mem regs pc w0 i w) (hB : Below w.heap.size w w') : MDo T b mem regs pc w0 i w' :=
  ⟨h.m.next hB, h.i.next hB, h.e.next hB, h.k.next hB⟩
theorem MDo.alloc {T : TypeId} {b : Nat} {mem regs : List Int} {pc : Int} {w0 w : World} {i : List Value} (h : MDo T b mem regs pc w0 i w) (o : Obj) : MDo T b mem regs pc w0 i (w.alloc o) := h.next ((Below.refl _ _).alloc (Nat.le_refl _) _)
theorem MDo.drewN {T : TypeId} {b : Nat} {mem regs : List Int} {pc : Int} {w0 w : World} {i : List Value} (h : MDo T b mem regs pc w0 i w) (n : Nat) : MDo T b mem regs pc w0 i (w.drewN n) := h.next (drewN_b w n)
theorem MDo.new {T : TypeId} {b : Nat} {mem regs : List Int} {pc : Int} {w0 : World} (h : IsM T b mem regs pc w0) (i : List Value) (t : TypeId) (t' : TypeId) : MDo T b mem regs pc w0 i ((w0.alloc (.cells i.toArray t)).alloc (.cells #[.int .i64 0, .int .i64 0] t')) :=
  ⟨(h.alloc _).alloc _, (CellsAt.new w0 i t).alloc _, by have := CellsAt.new (w0.alloc (.cells i.toArray t)) [.int .i64 0, .int .i64 0] t'; rw [World.size_alloc] at this; exact this, ((Kept.refl b w0).alloc _).alloc _⟩
theorem do_end {T : TypeId} {b : Nat} {mem mem' regs regs' : List Int} {pc p : Int} {w0 w w' : World} {i : List Value} (h : MDo T b mem regs pc w0 i w) (hb : b < w0.heap.size) (hM : IsM T b mem' regs' p w') (hK : Kept b w w') :
    CellsAt w0.heap.size i w' ∧ CellsAt (w0.heap.size + 1) [.int .i64 0, .int .i64 0] w' ∧ ∀ x y, IsM T b mem' regs' p ((w'.setCell ⟨w0.heap.size + 1, 0, none⟩ x).setCell ⟨w0.heap.size + 1, 1, none⟩ y) ∧ Kept b w0 ((w'.setCell ⟨w0.heap.size + 1, 0, none⟩ x).setCell ⟨w0.heap.size + 1, 1, none⟩ y) :=
  ⟨h.i.kept hK (by omega), h.e.kept hK (by omega), fun x y => ⟨(hM.far _ _ _ (by omega)).far _ _ _ (by omega), ((h.k.trans hK).far _ _ _ (by omega)).far _ _ _ (by omega)⟩⟩
set_option maxRecDepth 20000 in
set_option maxHeartbeats 1000000 in
theorem do_R (b o r1 r2 rd : Nat) (p : Int) (w : World) {T : TypeId} {mem regs : List Int} {pc : Int} (h : IsM T b mem regs pc w) (h1 : r1 < 32) (h2 : r2 < 32) (hd : rd < 32)
    (o1 : 1 ≤ o) (o2 : o ≤ 28) (hv : Pn.rightV ⟨o, rd, r1, r2, 0⟩ = .tuple #[Pn.irowV (o - 1), .bool true]) (hkd : Pn.kdI (Pn.row (o - 1)).kind = 0) (x1 : inB (regs.getD r1 0)) (x2 : inB (regs.getD r2 0)) :
    Calls Tryz.prog 90 #[.pointer (some ⟨b, 0, none⟩), (Pn.Ins.mk o rd r1 r2 0).val, .int .i64 p] w fun e w' => e = .returned (evV 0 0) ∧ IsM T b mem (rset regs rd (Pn.comp o (regs.getD r1 0) (regs.getD r2 0))) p w' ∧ Kept b w w' := by
  have hb := h.lt
  go_enter Tryz.func90, Tryz.ntmps90
  unfold Pn.Ins.val
  simp only
  go_wp2_with fail
  refine (iright_any (Pn.Ins.mk o rd r1 r2 0) _).mono ?_
  rintro e w1 ⟨rfl, hB1⟩
  have HD1 := (show Hid _ from (MDo.new h [.int .i64 o, .int .i64 rd, .int .i64 r1, .int .i64 r2, .int .i64 0] 26 56).next hB1)
  clear hB1
  have i0 := HD1.out.i.2.2 0 _ rfl
  have i1 := HD1.out.i.2.2 1 _ rfl
  have i2 := HD1.out.i.2.2 2 _ rfl
  have i3 := HD1.out.i.2.2 3 _ rfl
  have hs0 := HD1.out.i.1
  have hs1 := HD1.out.e.1
  have m1 := HD1.out.m.cellR r1 h1
  have m2 := HD1.out.m.cellR r2 h2
  have mb := HD1.out.m.lt
  rw [hv]
  unfold Pn.irowV Pn.irow
  rw [hkd]
  have HO1 := (show Hid _ from x1)
  have HO2 := (show Hid _ from x2)
  clear x1 x2
  generalize hX1 : regs.getD r1 0 = X1 at *
  generalize hX2 : regs.getD r2 0 = X2 at *
  have HX1 := (show Hid _ from hX1)
  have HX2 := (show Hid _ from hX2)
  clear hX1 hX2
  go_wp2_with fail
  go_quiet (fail)
  go_wp2_with fail
  have hD2 := (HD1.out.alloc (.cells #[.int .i64 (((o - 1 : Nat) : Int) + 1), .string ⟨(Pn.row (o - 1)).name.toArray⟩, .int .i64 0, .int .i64 (Pn.row (o - 1)).opc, .int .i64 (Pn.row (o - 1)).f, .int .i64 (Pn.row (o - 1)).g] 100)).drewN nq
  clear HD1 i0 i1 i2 i3 hs0 hs1 m1 m2 mb
  generalize World.drewN (w1.alloc _) nq = W2 at hD2 ⊢
  have i0 := hD2.i.2.2 0 _ rfl
  have i1 := hD2.i.2.2 1 _ rfl
  go_region_held3 (fun w' => w'.cell? ⟨w.heap.size, 0, none⟩ = some (.int .i64 o) ∧ w'.cell? ⟨w.heap.size, 1, none⟩ = some (.int .i64 rd)) (go_keep)
    (first
      | (go_at_call 150; refine (comp_any o (by omega) (by omega) X1 X2 _ HO1.out.1 HO1.out.2 HO2.out.1 HO2.out.2).mono ?_; rintro e w' ⟨rfl, rfl⟩)
      | (go_at_call 149; refine (goOn_is b rd _ _ _ (MDo.m (by first | assumption | exact MDo.drewN hD2 _)) hd).mono ?_; rintro e w' ⟨rfl, hM', hK'⟩; obtain ⟨hI', hE', hF'⟩ := do_end (by first | assumption | exact MDo.drewN hD2 _) hb hM' hK'; have q0 := hI'.2.2 0 _ rfl; have q1 := hI'.2.2 1 _ rfl; have f0 := hE'.2.2 0 _ rfl; have f1 := hE'.2.2 1 _ rfl; have ff := hE'.2.1; unfold evV))
  have HF := (show Hid _ from hF')
  go_wp2_with fail
  refine bodyPost_ret (v := evV 0 0) (by simp [results, Tryz.results90, go_sem, evV, f0, f1]) rfl ⟨rfl, ?_⟩
  rw [HX1.out, HX2.out]
  exact HF.out _ _
end Go.Proofs.YtbmcofdodfcnnaaGreatDoor
