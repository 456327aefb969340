import Derived.Test.YtbmcofdodfcnnaaGreatDoorV18
import Derived.Test.YtbmcofdodfcnnaaGreatDoorGQ
namespace Go.Proofs.YtbmcofdodfcnnaaGreatDoor
open Go.RowKit

theorem PcsAt.move {ao : Option Addr} {l : List Pn.Pc} {w w' : World} (h : PcsAt ao l w.heap.size w) (hB : Below w.heap.size w w') (P : Nat) (hP : w.heap.size ≤ P) : PcsAt ao l P w' := fun i p hi => by
  obtain ⟨g, o, h1, h2, h3, h4, h5, h6⟩ := h i p hi
  exact ⟨g, o, h1, Nat.lt_of_lt_of_le h2 hB.size, by omega, h4, (hB.cell (p := ⟨g, _, none⟩) h2).trans h5, (hB.cell (p := ⟨g, _, none⟩) h2).trans h6⟩
def zPart : List Value := [.string ⟨#[]⟩, .int .i64 0, .int .i64 0, .int .i64 0, .int .i64 0, .int .i64 0, .string ⟨#[]⟩]
theorem below7 {w w3 : World} (h : Below w.heap.size w w3) (a b c d e f g : Value) :
    Below w.heap.size w (((((((w3.setCell ⟨w.heap.size, 0, none⟩ a).setCell ⟨w.heap.size, 1, none⟩ b).setCell ⟨w.heap.size, 2, none⟩ c).setCell ⟨w.heap.size, 3, none⟩ d).setCell ⟨w.heap.size, 4, none⟩ e).setCell ⟨w.heap.size, 5, none⟩ f).setCell ⟨w.heap.size, 6, none⟩ g) :=
  ((((((h.setCell (Nat.le_refl _) _).setCell (Nat.le_refl _) _).setCell (Nat.le_refl _) _).setCell (Nat.le_refl _) _).setCell (Nat.le_refl _) _).setCell (Nat.le_refl _) _).setCell (Nat.le_refl _) _

set_option maxRecDepth 100000 in
set_option maxHeartbeats 8000000 in
theorem readInstruction_is (nm : ByteArray) (k : Nat) (l : List Pn.Pc) (ao : Option Addr) (cp : Nat) (w : World) (hk : k < 64) (hf : (List.range 64).find? (Pn.byName nm) = some k) (hE : Env w) (hl : PcsAt ao l w.heap.size w) :
    Calls Tryz.prog 136 #[.string nm, .slice ao l.length cp] w fun e w' => e = .returned (.tuple #[.agg (Pn.rin k l).1.toArray, .int .i64 (Pn.rin k l).2]) ∧ Below w.heap.size w w' := by
  have HL := hide hl
  have HE := hide hE
  have HKO := hide (Pn.kinds_ok k hk)
  have hng := hE.1
  clear hl
  go_enter Tryz.func136, Tryz.ntmps136
  go_wp2_with fail
  refine (named_is nm k _ hk hf).mono ?_
  rintro e w1 ⟨rfl, hB1⟩
  have HZ1 := hide ((CellsAt.new w zPart 193).next hB1)
  have HB1 := hide (((Below.refl w.heap.size w).alloc (Nat.le_refl _) _).trans (hB1.mono (by simp)))
  have hz1 : w.heap.size < w1.heap.size := HZ1.out.1
  clear hB1
  unfold Pn.Ins.val
  simp only
  go_wp2_with fail
  have hBW : Below w1.heap.size w1 ((w1.alloc (.cells #[.int .i64 (k + 1), .int .i64 0, .int .i64 0, .int .i64 0, .int .i64 0] 26)).alloc (.cells #[.string ⟨#[]⟩, .int .i64 (k + 1), .int .i64 0, .int .i64 0, .int .i64 0, .int .i64 0, .string ⟨#[]⟩] 193)) :=
    ((Below.refl _ _).alloc (Nat.le_refl _) _).alloc (by simp) _
  have hC2 : CellsAt (w1.heap.size + 1) (Pn.partCells ⟨k + 1, 0, 0, 0, 0⟩ []) ((w1.alloc (.cells #[.int .i64 (k + 1), .int .i64 0, .int .i64 0, .int .i64 0, .int .i64 0] 26)).alloc (.cells #[.string ⟨#[]⟩, .int .i64 (k + 1), .int .i64 0, .int .i64 0, .int .i64 0, .int .i64 0, .string ⟨#[]⟩] 193)) := by
    have := CellsAt.new (w1.alloc (.cells #[.int .i64 (k + 1), .int .i64 0, .int .i64 0, .int .i64 0, .int .i64 0] 26)) (Pn.partCells ⟨k + 1, 0, 0, 0, 0⟩ []) 193
    rw [World.size_alloc] at this
    exact this
  have HZ2 := hide (CellsAt.next HZ1.out hBW)
  have hB2 := HB1.out.trans (hBW.mono HB1.out.size)
  have hE2 := Env.below HE.out hB2 HE.out.1
  have hP2 := PcsAt.move HL.out hB2 (w1.heap.size + 1) (by omega)
  have HB2 := hide hB2
  have HSD : Hid ((ByteArray.mk (Pn.shp (Pn.row k).kind).toArray).data.toList = Pn.shp (Pn.row k).kind) := by show _ = _; simp
  clear hBW hB2 HB1 HZ1
  generalize ((w1.alloc (.cells #[.int .i64 (k + 1), .int .i64 0, .int .i64 0, .int .i64 0, .int .i64 0] 26)).alloc (.cells #[.string ⟨#[]⟩, .int .i64 (k + 1), .int .i64 0, .int .i64 0, .int .i64 0, .int .i64 0, .string ⟨#[]⟩] 193)) = W at *
  refine (readShape_is _ (by rw [HSD.out]; exact Pn.shp_lett HKO.out) (by simpa [ByteArray.size] using Pn.shp_len (Pn.row k).kind) (w1.heap.size + 1) ⟨k + 1, 0, 0, 0, 0⟩ [] l ao cp W hE2 (by omega) hC2 hP2).mono ?_
  rintro e w3 ⟨rfl, hK3, hS3⟩
  rw [HSD.out] at hS3 ⊢
  have HZ3 := hide (CellsAt.keeps HZ2.out hK3 (by omega) (by simp))
  have HB3 := hide (hK3.below HB2.out (by omega) (fun _ h => by cases h) (Nat.le_refl _))
  have HS3 := hide hS3
  obtain ⟨hzz, yf, yc⟩ := HZ3.out
  have y0 := yc 0 _ rfl
  have y1 := yc 1 _ rfl
  have y2 := yc 2 _ rfl
  have y3 := yc 3 _ rfl
  have y4 := yc 4 _ rfl
  have y5 := yc 5 _ rfl
  have y6 := yc 6 _ rfl
  clear hK3 hS3 hC2 hE2 hP2 yc
  cases hps : Pn.pshape (Pn.shp (Pn.row k).kind) l ⟨k + 1, 0, 0, 0, 0⟩ [] with
  | none =>
    have HR := hide (Pn.rin_none hps)
    simp only [Option.isSome]
    go_wp2_with fail
    refine bodyPost_ret (v := .tuple #[.agg zPart.toArray, .int .i64 4]) (by simp [results, Tryz.results136, go_sem, y0, y1, y2, y3, y4, y5, y6, zPart]) rfl ⟨by rw [HR.out]; rfl, below7 HB3.out _ _ _ _ _ _ _⟩
  | some s =>
    obtain ⟨⟨op, rd, rs1, rs2, imm⟩, tg⟩ := s
    have HPS := hide hps
    obtain ⟨hpp, _, pc⟩ := HS3.out _ hps
    have p0 := pc 0 _ rfl
    have p1 := pc 1 _ rfl
    have p2 := pc 2 _ rfl
    have p3 := pc 3 _ rfl
    have p4 := pc 4 _ rfl
    have p5 := pc 5 _ rfl
    have p6 := pc 6 _ rfl
    simp only at p1 p2 p3 p4 p5 p6
    have HPC := hide pc
    clear hps pc HS3
    simp only [Option.isSome]
    go_wp2_with fail
    refine (iright_any ⟨op, rd, rs1, rs2, imm⟩ _).mono ?_
    rintro e w4 ⟨rfl, hB4⟩
    have HZ4 := hide (CellsAt.next HZ3.out hB4)
    have HB4 := hide (HB3.out.trans (hB4.mono HB3.out.size))
    have hp4 : ∀ j v, (Pn.partCells ⟨op, rd, rs1, rs2, imm⟩ tg)[j]? = some v → w4.cell? ⟨w1.heap.size + 1, j, none⟩ = some v := fun j v hj => (hB4.cell (p := ⟨w1.heap.size + 1, j, none⟩) hpp).trans (HPC.out j v hj)
    have P0 := hp4 0 _ rfl
    have P1 := hp4 1 _ rfl
    have P2 := hp4 2 _ rfl
    have P3 := hp4 3 _ rfl
    have P4 := hp4 4 _ rfl
    have P5 := hp4 5 _ rfl
    have P6 := hp4 6 _ rfl
    simp only at P1 P2 P3 P4 P5 P6
    have hpp4 : w1.heap.size + 1 < w4.heap.size := Nat.lt_of_lt_of_le hpp hB4.size
    clear y0 y1 y2 y3 y4 y5 y6 yf hzz p0 p1 p2 p3 p4 p5 p6 hB4 hp4
    obtain ⟨hzz, yf, yc⟩ := HZ4.out
    have y0 := yc 0 _ rfl
    have y1 := yc 1 _ rfl
    have y2 := yc 2 _ rfl
    have y3 := yc 3 _ rfl
    have y4 := yc 4 _ rfl
    have y5 := yc 5 _ rfl
    have y6 := yc 6 _ rfl
    clear yc
    by_cases hr : Pn.right ⟨op, rd, rs1, rs2, imm⟩ = true
    · have hop : 1 ≤ op ∧ op ≤ 64 := by
        apply Classical.byContradiction; intro hn
        rw [Pn.right_out _ hn] at hr; cases hr
      obtain ⟨kk, rfl⟩ : ∃ kk : Nat, op = kk + 1 := ⟨(op - 1).toNat, by omega⟩
      have HR := hide (Pn.rin_yes HPS.out hr)
      rw [Pn.rightV_yes hr]
      unfold Pn.irowV Pn.irow
      clear hr
      go_wp2_with fail
      refine bodyPost_ret (v := .tuple #[.agg (Pn.partCells ⟨kk + 1, rd, rs1, rs2, imm⟩ tg).toArray, .int .i64 0]) (by simp [results, Tryz.results136, go_sem, y0, y1, y2, y3, y4, y5, y6, hzz, Pn.partCells]) rfl ⟨by rw [HR.out], ?_⟩
      exact (below7 HB4.out _ _ _ _ _ _ _).alloc (by have := HB4.out.size; simp [World.setCell]; omega) _
    · have hr' : Pn.right ⟨op, rd, rs1, rs2, imm⟩ = false := by simpa using hr
      have HR := hide (Pn.rin_no HPS.out hr')
      rw [Pn.rightV_no hr']
      unfold Pn.irow0V Pn.irow0
      clear hr hr'
      go_wp2_with fail
      refine bodyPost_ret (v := .tuple #[.agg zPart.toArray, .int .i64 5]) (by simp [results, Tryz.results136, go_sem, y0, y1, y2, y3, y4, y5, y6, hzz, zPart]) rfl ⟨by rw [HR.out]; rfl, ?_⟩
      exact (below7 HB4.out _ _ _ _ _ _ _).alloc (by have := HB4.out.size; simp [World.setCell]; omega) _
end Go.Proofs.YtbmcofdodfcnnaaGreatDoor
namespace Go.Proofs.YtbmcofdodfcnnaaGreatDoor
open Go.RowKit

theorem find_lt {p : Nat → Bool} {k : Nat} (h : (List.range 64).find? p = some k) : k < 64 := by
  rw [List.find?_range_eq_some] at h
  simpa using h.2.1

set_option maxRecDepth 100000 in
set_option maxHeartbeats 8000000 in
theorem readPlain_is (nm : ByteArray) (l : List Pn.Pc) (ao : Option Addr) (cp : Nat) (w : World) (hE : Env w) (hl : PcsAt ao l w.heap.size w) :
    Calls Tryz.prog 74 #[.string nm, .slice ao l.length cp] w fun e w' => e = .returned (.tuple #[(Pn.pplain nm l).1.val, .int .i64 (Pn.pplain nm l).2]) ∧ Below w.heap.size w w' := by
  have HL := hide hl
  have HE := hide hE
  clear hl
  go_enter Tryz.func74, Tryz.ntmps74
  go_wp2_with fail
  refine (Named_is nm _).mono ?_
  rintro e w1 ⟨rfl, hB1⟩
  have HZ1 := hide ((CellsAt.new w zI 26).next hB1)
  have HB1 := hide (((Below.refl w.heap.size w).alloc (Nat.le_refl _) _).trans (hB1.mono (by simp)))
  have hz1 : w.heap.size < w1.heap.size := HZ1.out.1
  clear hB1
  cases hf : (List.range 64).find? (Pn.byName nm) with
  | none =>
    have HP : Hid (Pn.pplain nm l = (⟨0, 0, 0, 0, 0⟩, 4)) := by show _ = _; simp only [Pn.pplain, hf]
    obtain ⟨_, yf, yc⟩ := HZ1.out
    have y0 := yc 0 _ rfl
    have y1 := yc 1 _ rfl
    have y2 := yc 2 _ rfl
    have y3 := yc 3 _ rfl
    have y4 := yc 4 _ rfl
    clear yc
    unfold findV Pn.irow0V Pn.irow0
    go_wp2_with fail
    refine bodyPost_ret (v := .tuple #[(Pn.Ins.mk 0 0 0 0 0).val, .int .i64 4]) (by simp [results, Tryz.results74, go_sem, y0, y1, y2, y3, y4, hz1, Pn.Ins.val]) rfl ⟨by rw [HP.out], ?_⟩
    exact (below5'' HB1.out _ _ _ _ _).alloc (by have := HB1.out.size; simp [World.setCell]; omega) _
  | some k =>
    have hk := find_lt hf
    have HF := hide hf
    have hB2 : Below w.heap.size w (w1.alloc (.cells (Pn.irow k).toArray 100)) := HB1.out.alloc HB1.out.size _
    have hE2 := Env.below HE.out hB2 HE.out.1
    have hP2 : PcsAt ao l (w1.alloc (.cells (Pn.irow k).toArray 100)).heap.size (w1.alloc (.cells (Pn.irow k).toArray 100)) := PcsAt.move HL.out hB2 _ (by simp; omega)
    have HZ2 := hide (CellsAt.alloc HZ1.out (.cells (Pn.irow k).toArray 100))
    have HB2 := hide hB2
    clear hf hB2
    unfold findV Pn.irowV
    unfold Pn.irow at hE2 hP2 HZ2 HB2 ⊢
    go_wp2_with fail
    refine (readInstruction_is nm k l ao cp _ hk HF.out hE2 hP2).mono ?_
    rintro e w3 ⟨rfl, hB3⟩
    have HZ3 := hide (CellsAt.next HZ2.out hB3)
    have HB3 := hide (HB2.out.trans (hB3.mono HB2.out.size))
    obtain ⟨hzz, yf, yc⟩ := HZ3.out
    have y0 := yc 0 _ rfl
    have y1 := yc 1 _ rfl
    have y2 := yc 2 _ rfl
    have y3 := yc 3 _ rfl
    have y4 := yc 4 _ rfl
    clear hB3 hE2 hP2 yc
    cases hps : Pn.pshape (Pn.shp (Pn.row k).kind) l ⟨k + 1, 0, 0, 0, 0⟩ [] with
    | none =>
      have HP : Hid (Pn.pplain nm l = (⟨0, 0, 0, 0, 0⟩, 4)) := by show _ = _; simp only [Pn.pplain, HF.out, hps]
      rw [Pn.rin_none hps]
      unfold Pn.partCells
      simp only
      go_wp2_with fail
      refine bodyPost_ret (v := .tuple #[(Pn.Ins.mk 0 0 0 0 0).val, .int .i64 4]) (by simp [results, Tryz.results74, go_sem, y0, y1, y2, y3, y4, hzz, Pn.Ins.val]) rfl ⟨by rw [HP.out], ?_⟩
      exact (below5'' HB3.out _ _ _ _ _).alloc (by have := HB3.out.size; simp [World.setCell]; omega) _
    | some s =>
      obtain ⟨⟨op, rd, rs1, rs2, imm⟩, tg⟩ := s
      by_cases hr : Pn.right ⟨op, rd, rs1, rs2, imm⟩ = true
      · rw [Pn.rin_yes hps hr]
        unfold Pn.partCells
        simp only
        by_cases htg : tg = []
        · have HP : Hid (Pn.pplain nm l = (⟨op, rd, rs1, rs2, imm⟩, 0)) := by show _ = _; simp only [Pn.pplain, HF.out, hps, hr, htg, if_true]
          subst htg
          clear hps hr
          go_wp2_with fail
          refine bodyPost_ret (v := .tuple #[(Pn.Ins.mk op rd rs1 rs2 imm).val, .int .i64 0]) (by simp [results, Tryz.results74, go_sem, y0, y1, y2, y3, y4, hzz, Pn.Ins.val]) rfl ⟨by rw [HP.out], ?_⟩
          exact (below5'' HB3.out _ _ _ _ _).alloc (by have := HB3.out.size; simp [World.setCell]; omega) _
        · have HP : Hid (Pn.pplain nm l = (⟨0, 0, 0, 0, 0⟩, 4)) := by show _ = _; simp only [Pn.pplain, HF.out, hps, hr, htg, if_true, if_false]
          have hte : tg.isEmpty = false := by cases tg with | nil => exact absurd rfl htg | cons a b => rfl
          clear hps hr
          go_wp2_with fail
          refine bodyPost_ret (v := .tuple #[(Pn.Ins.mk 0 0 0 0 0).val, .int .i64 4]) (by simp [results, Tryz.results74, go_sem, y0, y1, y2, y3, y4, hzz, Pn.Ins.val]) rfl ⟨by rw [HP.out], ?_⟩
          exact (below5'' HB3.out _ _ _ _ _).alloc (by have := HB3.out.size; simp [World.setCell]; omega) _
      · have hr' : Pn.right ⟨op, rd, rs1, rs2, imm⟩ = false := by simpa using hr
        have HP : Hid (Pn.pplain nm l = (⟨0, 0, 0, 0, 0⟩, 5)) := by show _ = _; simp only [Pn.pplain, HF.out, hps, hr', if_false, Bool.false_eq_true]
        rw [Pn.rin_no hps hr']
        unfold Pn.partCells
        simp only
        clear hps hr hr'
        go_wp2_with fail
        refine bodyPost_ret (v := .tuple #[(Pn.Ins.mk 0 0 0 0 0).val, .int .i64 5]) (by simp [results, Tryz.results74, go_sem, y0, y1, y2, y3, y4, hzz, Pn.Ins.val]) rfl ⟨by rw [HP.out], ?_⟩
        exact (below5'' HB3.out _ _ _ _ _).alloc (by have := HB3.out.size; simp [World.setCell]; omega) _
end Go.Proofs.YtbmcofdodfcnnaaGreatDoor
