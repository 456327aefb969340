import Derived.Test.YtbmcofdodfcnnaaGreatDoorVC
namespace Go.Proofs.YtbmcofdodfcnnaaGreatDoor
open Go.RowKit

set_option maxRecDepth 100000 in
set_option maxHeartbeats 4000000 in
theorem named_is (nm : ByteArray) (k : Nat) (w : World) (hk : k < 64) (hf : (List.range 64).find? (Pn.byName nm) = some k) :
    Calls Tryz.prog 189 #[.string nm] w fun e w' => e = .returned (.tuple #[(Pn.Ins.mk (k + 1) 0 0 0 0).val, .string ⟨(Pn.shp (Pn.row k).kind).toArray⟩, .bool true]) ∧ Below w.heap.size w w' := by
  have HF := hide hf
  go_enter Tryz.func189, Tryz.ntmps189
  go_wp2_with fail
  refine (Named_is nm _).mono ?_
  rintro e w1 ⟨rfl, hB1⟩
  rw [HF.out]
  have HZ := hide (CellsAt.alloc ((CellsAt.new w zI 26).next hB1) (.cells (Pn.irow k).toArray 100))
  have hz1 : w.heap.size < w1.heap.size := ((CellsAt.new w zI 26).next hB1).1
  have HB1 := hide (((Below.refl w.heap.size w).alloc (Nat.le_refl _) _).trans (hB1.mono (by simp)))
  have HR := hide (CellsAt.new w1 (Pn.irow k) 100)
  have HBW := hide (HB1.out.alloc HB1.out.size (.cells (Pn.irow k).toArray 100))
  clear hB1
  unfold findV Pn.irowV
  unfold Pn.irow at HZ HR HBW ⊢
  go_wp2_with fail
  have s0 := HR.out.2.2 0 _ rfl
  have s2 := HR.out.2.2 2 _ rfl
  obtain ⟨hz, yf, yc⟩ := HZ.out
  have y0 := yc 0 _ rfl
  have y1 := yc 1 _ rfl
  have y2 := yc 2 _ rfl
  have y3 := yc 3 _ rfl
  have y4 := yc 4 _ rfl
  have hne : w.heap.size ≠ w1.heap.size := by omega
  clear yc HZ HR
  generalize w1.alloc _ = W at *
  go_region_held3 (fun w' => w'.cell? ⟨w1.heap.size, 0, none⟩ = some (.int .i64 (k + 1)) ∧ w'.cell? ⟨w1.heap.size, 2, none⟩ = some (.int .i64 (Pn.kdI (Pn.row k).kind))) (go_keep)
    (first | (go_at_call 62; refine (shapeOf_is _ (Pn.kinds_ok k hk) _).mono ?_; rintro e w' ⟨rfl, rfl⟩))
  all_goals
    go_wp2_with fail
    refine bodyPost_ret (v := .tuple #[(Pn.Ins.mk (k + 1) 0 0 0 0).val, .string ⟨(Pn.shp (Pn.row k).kind).toArray⟩, .bool true]) (by simp [results, Tryz.results189, go_sem, y0, y1, y2, y3, y4, Pn.Ins.val]) rfl ⟨rfl, ?_⟩
    exact below5'' HBW.out.drew _ _ _ _ _
end Go.Proofs.YtbmcofdodfcnnaaGreatDoor
