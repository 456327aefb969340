import Derived.Test.YtbmcofdodfcnnaaGreatDoorVB
import Derived.Test.YtbmcofdodfcnnaaGreatDoorPE
namespace Go.Proofs.YtbmcofdodfcnnaaGreatDoor
open Go.RowKit

set_option maxRecDepth 100000 in
set_option maxHeartbeats 2000000 in
theorem layoutOf_is (kd : Nat) (hk : Pn.kindsOk kd) (w : World) :
    Calls Tryz.prog 59 #[.int .i64 (Pn.kdI kd)] w fun e w' => ∃ sl, e = .returned (.agg (Pn.layCells kd sl).toArray) ∧ Pn.PiecesAt w.heap.size (Pn.pieces kd) sl w' ∧ Below w.heap.size w w' := by
  rcases hk with rfl | rfl | rfl | rfl | rfl | rfl | rfl | rfl | rfl | rfl
  · have : Pn.kdI 82 = 0 := rfl
    rw [this]
    clear this
    go_enter Tryz.func59, Tryz.ntmps59
    go_wp2_with fail
    refine bodyPost_ret (v := .agg (Pn.layCells 82 (.slice none 0 0)).toArray) (by simp [results, Tryz.results59, go_sem, Pn.layCells, Pn.has, Pn.least, Pn.most, Pn.evenK, Pn.gpos, Pn.fixm]) rfl ⟨_, rfl, Pn.pieces_nil _ _, (Below.refl _ _).alloc (Nat.le_refl _) _⟩
  · have : Pn.kdI 73 = 1 := rfl
    rw [this]
    clear this
    go_enter Tryz.func59, Tryz.ntmps59
    go_wp2_with fail
    refine bodyPost_ret (v := .agg (Pn.layCells 73 (.slice (some ⟨w.heap.size + 1, 0, none⟩) 1 1)).toArray) (by simp [results, Tryz.results59, go_sem, Pn.layCells, Pn.has, Pn.least, Pn.most, Pn.evenK, Pn.gpos, Pn.fixm]) rfl ⟨_, rfl, by have := Pn.pieces_new w.heap.size (Pn.pieces 73) (w.alloc (.cells (Pn.layCells 73 (.slice (some ⟨w.heap.size + 1, 0, none⟩) 1 1)).toArray 105)) 175 1 (Nat.le_refl _) (by simp); rw [World.size_alloc] at this; exact this, ((Below.refl _ _).alloc (Nat.le_refl _) _).alloc (by simp) _⟩
  · have : Pn.kdI 76 = 4 := rfl
    rw [this]
    clear this
    go_enter Tryz.func59, Tryz.ntmps59
    go_wp2_with fail
    refine bodyPost_ret (v := .agg (Pn.layCells 76 (.slice (some ⟨w.heap.size + 1, 0, none⟩) 1 1)).toArray) (by simp [results, Tryz.results59, go_sem, Pn.layCells, Pn.has, Pn.least, Pn.most, Pn.evenK, Pn.gpos, Pn.fixm]) rfl ⟨_, rfl, by have := Pn.pieces_new w.heap.size (Pn.pieces 76) (w.alloc (.cells (Pn.layCells 76 (.slice (some ⟨w.heap.size + 1, 0, none⟩) 1 1)).toArray 105)) 175 1 (Nat.le_refl _) (by simp); rw [World.size_alloc] at this; exact this, ((Below.refl _ _).alloc (Nat.le_refl _) _).alloc (by simp) _⟩
  · have : Pn.kdI 72 = 2 := rfl
    rw [this]
    clear this
    go_enter Tryz.func59, Tryz.ntmps59
    go_wp2_with fail
    refine bodyPost_ret (v := .agg (Pn.layCells 72 (.slice (some ⟨w.heap.size + 1, 0, none⟩) 1 1)).toArray) (by simp [results, Tryz.results59, go_sem, Pn.layCells, Pn.has, Pn.least, Pn.most, Pn.evenK, Pn.gpos, Pn.fixm]) rfl ⟨_, rfl, by have := Pn.pieces_new w.heap.size (Pn.pieces 72) (w.alloc (.cells (Pn.layCells 72 (.slice (some ⟨w.heap.size + 1, 0, none⟩) 1 1)).toArray 105)) 175 1 (Nat.le_refl _) (by simp); rw [World.size_alloc] at this; exact this, ((Below.refl _ _).alloc (Nat.le_refl _) _).alloc (by simp) _⟩
  · have : Pn.kdI 87 = 3 := rfl
    rw [this]
    clear this
    go_enter Tryz.func59, Tryz.ntmps59
    go_wp2_with fail
    refine bodyPost_ret (v := .agg (Pn.layCells 87 (.slice (some ⟨w.heap.size + 1, 0, none⟩) 1 1)).toArray) (by simp [results, Tryz.results59, go_sem, Pn.layCells, Pn.has, Pn.least, Pn.most, Pn.evenK, Pn.gpos, Pn.fixm]) rfl ⟨_, rfl, by have := Pn.pieces_new w.heap.size (Pn.pieces 87) (w.alloc (.cells (Pn.layCells 87 (.slice (some ⟨w.heap.size + 1, 0, none⟩) 1 1)).toArray 105)) 175 1 (Nat.le_refl _) (by simp); rw [World.size_alloc] at this; exact this, ((Below.refl _ _).alloc (Nat.le_refl _) _).alloc (by simp) _⟩
  · have : Pn.kdI 83 = 5 := rfl
    rw [this]
    clear this
    go_enter Tryz.func59, Tryz.ntmps59
    go_wp2_with fail
    refine bodyPost_ret (v := .agg (Pn.layCells 83 (.slice (some ⟨w.heap.size + 1, 0, none⟩) 2 2)).toArray) (by simp [results, Tryz.results59, go_sem, Pn.layCells, Pn.has, Pn.least, Pn.most, Pn.evenK, Pn.gpos, Pn.fixm]) rfl ⟨_, rfl, by have := Pn.pieces_new w.heap.size (Pn.pieces 83) (w.alloc (.cells (Pn.layCells 83 (.slice (some ⟨w.heap.size + 1, 0, none⟩) 2 2)).toArray 105)) 175 2 (Nat.le_refl _) (by simp); rw [World.size_alloc] at this; exact this, ((Below.refl _ _).alloc (Nat.le_refl _) _).alloc (by simp) _⟩
  · have : Pn.kdI 66 = 6 := rfl
    rw [this]
    clear this
    go_enter Tryz.func59, Tryz.ntmps59
    go_wp2_with fail
    refine bodyPost_ret (v := .agg (Pn.layCells 66 (.slice (some ⟨w.heap.size + 1, 0, none⟩) 4 4)).toArray) (by simp [results, Tryz.results59, go_sem, Pn.layCells, Pn.has, Pn.least, Pn.most, Pn.evenK, Pn.gpos, Pn.fixm]) rfl ⟨_, rfl, by have := Pn.pieces_new w.heap.size (Pn.pieces 66) (w.alloc (.cells (Pn.layCells 66 (.slice (some ⟨w.heap.size + 1, 0, none⟩) 4 4)).toArray 105)) 175 4 (Nat.le_refl _) (by simp); rw [World.size_alloc] at this; exact this, ((Below.refl _ _).alloc (Nat.le_refl _) _).alloc (by simp) _⟩
  · have : Pn.kdI 85 = 7 := rfl
    rw [this]
    clear this
    go_enter Tryz.func59, Tryz.ntmps59
    go_wp2_with fail
    refine bodyPost_ret (v := .agg (Pn.layCells 85 (.slice (some ⟨w.heap.size + 1, 0, none⟩) 1 1)).toArray) (by simp [results, Tryz.results59, go_sem, Pn.layCells, Pn.has, Pn.least, Pn.most, Pn.evenK, Pn.gpos, Pn.fixm]) rfl ⟨_, rfl, by have := Pn.pieces_new w.heap.size (Pn.pieces 85) (w.alloc (.cells (Pn.layCells 85 (.slice (some ⟨w.heap.size + 1, 0, none⟩) 1 1)).toArray 105)) 175 1 (Nat.le_refl _) (by simp); rw [World.size_alloc] at this; exact this, ((Below.refl _ _).alloc (Nat.le_refl _) _).alloc (by simp) _⟩
  · have : Pn.kdI 74 = 8 := rfl
    rw [this]
    clear this
    go_enter Tryz.func59, Tryz.ntmps59
    go_wp2_with fail
    refine bodyPost_ret (v := .agg (Pn.layCells 74 (.slice (some ⟨w.heap.size + 1, 0, none⟩) 4 4)).toArray) (by simp [results, Tryz.results59, go_sem, Pn.layCells, Pn.has, Pn.least, Pn.most, Pn.evenK, Pn.gpos, Pn.fixm]) rfl ⟨_, rfl, by have := Pn.pieces_new w.heap.size (Pn.pieces 74) (w.alloc (.cells (Pn.layCells 74 (.slice (some ⟨w.heap.size + 1, 0, none⟩) 4 4)).toArray 105)) 175 4 (Nat.le_refl _) (by simp); rw [World.size_alloc] at this; exact this, ((Below.refl _ _).alloc (Nat.le_refl _) _).alloc (by simp) _⟩
  · have : Pn.kdI 78 = 9 := rfl
    rw [this]
    clear this
    go_enter Tryz.func59, Tryz.ntmps59
    go_wp2_with fail
    refine bodyPost_ret (v := .agg (Pn.layCells 78 (.slice none 0 0)).toArray) (by simp [results, Tryz.results59, go_sem, Pn.layCells, Pn.has, Pn.least, Pn.most, Pn.evenK, Pn.gpos, Pn.fixm]) rfl ⟨_, rfl, Pn.pieces_nil _ _, (Below.refl _ _).alloc (Nat.le_refl _) _⟩
end Go.Proofs.YtbmcofdodfcnnaaGreatDoor
