import Derived.Test.YtbmcofdodfcnnaaGreatDoorW6
import Derived.Test.YtbmcofdodfcnnaaGreatDoorShelf
import Derived.WalkSmall
import Derived.Lib.ItoaLen
namespace Go.Proofs.YtbmcofdodfcnnaaGreatDoor
open Go.RowKit

/-- what the library's functions find in the program's variables -/
def Env (w : World) : Prop :=
  8 ≤ w.heap.size ∧ Lib.TabIs Tryz.prog w "internal/strconv.uint64pow10" .u64 Lib.pow10Tab ∧ (∃ m, w.cell? ⟨0, 0, none⟩ = some (.int .i64 m)) ∧
  (∃ te pe, w.cell? ⟨6, 0, none⟩ = some (.iface te pe)) ∧ (∃ te pe, w.cell? ⟨7, 0, none⟩ = some (.iface te pe))
theorem Env.below {B : Nat} {w w' : World} (h : Env w) (hB : Below B w w') (hb : 8 ≤ B) : Env w' := by
  obtain ⟨h1, h2, ⟨m, h3⟩, ⟨te, pe, h4⟩, ⟨tf, pf, h5⟩⟩ := h
  refine ⟨by have := hB.size; omega, var?_below hB (show Tryz.prog.globalNamed "internal/strconv.uint64pow10" = some 1 by kernel_rfl) (by omega) h2, ⟨m, (hB.cell (p := ⟨0, 0, none⟩) (by show 0 < B; omega)).trans h3⟩,
    ⟨te, pe, (hB.cell (p := ⟨6, 0, none⟩) (by show 6 < B; omega)).trans h4⟩, ⟨tf, pf, (hB.cell (p := ⟨7, 0, none⟩) (by show 7 < B; omega)).trans h5⟩⟩
theorem Env.alloc {w : World} (h : Env w) (o : Obj) : Env (w.alloc o) := h.below ((Below.refl w.heap.size w).alloc (Nat.le_refl _) o) h.1
theorem Env.drewN {w : World} (h : Env w) (n : Nat) : Env (w.drewN n) := h.below (below_drewN (Below.refl w.heap.size w) n) h.1

theorem below_grow (w : World) (k : Nat) (os : Array Obj) : Below w.heap.size w (Go.Sort.grow (w.drewN k) os) := by
  refine ⟨rfl, rfl, rfl, ?_, fun i hi => ?_⟩
  · show w.heap.size ≤ (w.heap ++ os).size
    simp
  · show (w.heap ++ os)[i]? = w.heap[i]?
    rw [Array.getElem?_append_left hi]

/-- Itoa, its result behind a letter -/
theorem itoa_is (n : Int) (w : World) (h0 : -9223372036854775808 ≤ n) (h1 : n ≤ 9223372036854775807) (hE : Env w) :
    Calls Tryz.prog 43 #[.int .i64 n] w fun e w' => ∃ s : ByteArray, e = .returned (.string s) ∧ s.size ≤ 21 ∧ Hid (s.data.toList = Lib.itoa n) ∧ Below w.heap.size w w' := by
  refine (Tryz.strconv_Itoa n h0 h1 w hE.2.1).mono ?_
  rintro e w' ⟨rfl, k, os, rfl⟩
  refine ⟨_, rfl, ?_, ?_, below_grow _ _ _⟩
  · have := Lib.itoa_length_le n h0 h1
    simpa [ByteArray.size] using this
  · simp [Hid]

/-- Show: the instruction lies at w0's end, its row at b -/
def HeldS (w0 : World) (b k kd : Nat) (rd rs1 rs2 imm : Int) (w : World) : Prop :=
  Held w0 b k kd rd rs1 rs2 imm w ∧ w.cell? ⟨b, 0, none⟩ = some (.string ⟨(Pn.row k).name.toArray⟩) ∧ w0.heap.size < w.heap.size ∧ b < w.heap.size ∧ Env w
theorem HeldS.step {w0 : World} {b k kd : Nat} {rd rs1 rs2 imm : Int} {w w' : World} (h : HeldS w0 b k kd rd rs1 rs2 imm w) (hB : Below w.heap.size w w') : HeldS w0 b k kd rd rs1 rs2 imm w' := by
  obtain ⟨⟨h1, h2, h3, h4, h5, h6, h7, h8, h9⟩, g1, g2, g3, g4⟩ := h
  exact ⟨⟨(hB.cell (p := ⟨w0.heap.size, 1, none⟩) g2).trans h1, (hB.cell (p := ⟨w0.heap.size, 2, none⟩) g2).trans h2, (hB.cell (p := ⟨w0.heap.size, 3, none⟩) g2).trans h3, (hB.cell (p := ⟨w0.heap.size, 4, none⟩) g2).trans h4,
    (hB.cell (p := ⟨b, 1, none⟩) g3).trans h5, (hB.cell (p := ⟨b, 2, none⟩) g3).trans h6, (hB.cell (p := ⟨b, 3, none⟩) g3).trans h7, (hB.cell (p := ⟨b, 4, none⟩) g3).trans h8, h9.trans (hB.mono (by omega))⟩,
    (hB.cell (p := ⟨b, 0, none⟩) g3).trans g1, by have := hB.size; omega, by have := hB.size; omega, g4.below hB g4.1⟩

end Go.Proofs.YtbmcofdodfcnnaaGreatDoor
