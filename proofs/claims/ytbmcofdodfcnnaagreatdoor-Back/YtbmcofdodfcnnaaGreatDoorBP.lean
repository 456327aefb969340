import Derived.Test.YtbmcofdodfcnnaaGreatDoorGAW
import Derived.Test.YtbmcofdodfcnnaaGreatDoorV21
import Derived.Test.YtbmcofdodfcnnaaGreatDoorGFK
namespace Go.Proofs.YtbmcofdodfcnnaaGreatDoor
open Go.RowKit
theorem iexpand_any (n : Int) (w : World) :
    Calls Tryz.prog 40 #[.int .i64 n] w fun e w' => e = .returned (.tuple #[(Pn.expP n).1.val, .int .i64 (Pn.expP n).2]) ∧ Below w.heap.size w w' := by
  by_cases h : n < 0 ∨ 65535 < n
  · exact expand_out n w h
  · exact expand_in n w h reads_all
theorem pexpand_any (n : Int) (w : World) :
    Calls Tryz.prog 19 #[.int .i64 n] w fun e w' => e = .returned (.tuple #[(Pn.expP n).1.val, .int .i64 (Pn.expP n).2]) ∧ Below w.heap.size w w' := by
  have H := hid (fun w' => iexpand_any n w')
  have HC : Hid (CellsAt w.heap.size z5 (w.alloc (.cells z5.toArray 26))) := hid (CellsAt.new w z5 26)
  have HB : Hid (Below w.heap.size w (w.alloc (.cells z5.toArray 26))) := hid ((Below.refl _ _).alloc (Nat.le_refl _) _)
  unfold z5 at HC HB
  generalize Pn.expP n = X at *
  obtain ⟨⟨iop, ird, irs1, irs2, iimm⟩, x2⟩ := X
  unfold Pn.Ins.val at H
  simp only at H
  go_enter Tryz.func19, Tryz.ntmps19
  go_wp2_with fail
  refine (H.out _).mono ?_
  rintro e w1 ⟨rfl, hB1⟩
  have hC1 := HC.out.next hB1
  have y0 := hC1.2.2 0 _ rfl
  have y1 := hC1.2.2 1 _ rfl
  have y2 := hC1.2.2 2 _ rfl
  have y3 := hC1.2.2 3 _ rfl
  have y4 := hC1.2.2 4 _ rfl
  have yf := hC1.2.1
  have HB1 := hid (HB.out.trans (hB1.mono HB.out.size))
  clear hB1 HC HB hC1
  go_wp2_with fail
  refine bodyPost_ret (v := .tuple #[(Pn.Ins.mk iop ird irs1 irs2 iimm).val, .int .i64 x2]) (by simp [results, Tryz.results19, go_sem, y0, y1, y2, y3, y4, Pn.Ins.val]) rfl ⟨rfl, ?_⟩
  exact (((((HB1.out.setCell (by simp) _).setCell (by simp) _).setCell (by simp) _).setCell (by simp) _).setCell (by simp) _)
end Go.Proofs.YtbmcofdodfcnnaaGreatDoor
