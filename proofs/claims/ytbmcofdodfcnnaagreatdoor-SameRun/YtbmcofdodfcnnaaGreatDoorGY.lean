import Derived.Test.YtbmcofdodfcnnaaGreatDoorGW
import Derived.Test.YtbmcofdodfcnnaaGreatDoorGP
import Derived.Test.YtbmcofdodfcnnaaGreatDoorShelf
import Derived.WalkSmall
import Derived.Lib.ItoaLen
import Derived.Test.YtbmcofdodfcnnaaGreatDoorGQ
import Derived.Deep.CutBlock
import Derived.OneCell
import Derived.Deep.DeepCutAuto
namespace Go.Proofs.YtbmcofdodfcnnaaGreatDoor
open Go.RowKit
def Env (w : World) : Prop :=
  8 ≤ w.heap.size ∧ Lib.TabIs Tryz.prog w "internal/strconv.uint64pow10" .u64 Lib.pow10Tab ∧ (∃ m, w.cell? ⟨0, 0, none⟩ = some (.int .i64 m)) ∧
  (∃ te pe, w.cell? ⟨6, 0, none⟩ = some (.iface te pe)) ∧ (∃ te pe, w.cell? ⟨7, 0, none⟩ = some (.iface te pe))
theorem Env.below {B : Nat} {w w' : World} (h : Env w) (hB : Below B w w') (hb : 8 ≤ B) : Env w' := by
  obtain ⟨h1, h2, ⟨m, h3⟩, ⟨te, pe, h4⟩, ⟨tf, pf, h5⟩⟩ := h
  refine ⟨by have := hB.size; omega, var?_below hB (show Tryz.prog.globalNamed "internal/strconv.uint64pow10" = some 1 by kernel_rfl) (by omega) h2, ⟨m, (hB.cell (p := ⟨0, 0, none⟩) (by show 0 < B; omega)).trans h3⟩,
    ⟨te, pe, (hB.cell (p := ⟨6, 0, none⟩) (by show 6 < B; omega)).trans h4⟩, ⟨tf, pf, (hB.cell (p := ⟨7, 0, none⟩) (by show 7 < B; omega)).trans h5⟩⟩
theorem Env.alloc {w : World} (h : Env w) (o : Obj) : Env (w.alloc o) := h.below ((Below.refl w.heap.size w).alloc (Nat.le_refl _) o) h.1
theorem below_grow (w : World) (k : Nat) (os : Array Obj) : Below w.heap.size w (Go.Sort.grow (w.drewN k) os) := by
  refine ⟨rfl, rfl, rfl, ?_, fun i hi => ?_⟩
  · show w.heap.size ≤ (w.heap ++ os).size
    simp
  · show (w.heap ++ os)[i]? = w.heap[i]?
    rw [Array.getElem?_append_left hi]
theorem itoa_is (n : Int) (w : World) (h0 : -9223372036854775808 ≤ n) (h1 : n ≤ 9223372036854775807) (hE : Env w) :
    Calls Tryz.prog 43 #[.int .i64 n] w fun e w' => ∃ s : ByteArray, e = .returned (.string s) ∧ s.size ≤ 21 ∧ Hid (s.data.toList = Lib.itoa n) ∧ Below w.heap.size w w' := by
  refine (Tryz.strconv_Itoa n h0 h1 w hE.2.1).mono ?_
  rintro e w' ⟨rfl, k, os, rfl⟩
  refine ⟨_, rfl, ?_, ?_, below_grow _ _ _⟩
  · have := Lib.itoa_length_le n h0 h1
    simpa [ByteArray.size] using this
  · simp [Hid]
end Go.Proofs.YtbmcofdodfcnnaaGreatDoor
namespace Go.Proofs.YtbmcofdodfcnnaaGreatDoor
open Go.RowKit
theorem str_ext {a : ByteArray} {l : List UInt8} (h : a.data.toList = l) : Value.string a = .string ⟨l.toArray⟩ := by
  subst h; rfl
theorem bdata (a b : ByteArray) : (a ++ b).data.toList = a.data.toList ++ b.data.toList := by
  simp [ByteArray.data_append]
end Go.Proofs.YtbmcofdodfcnnaaGreatDoor
namespace Go.Proofs.YtbmcofdodfcnnaaGreatDoor
open Go.RowKit
theorem hide {p : Prop} (h : p) : Hid p := h
end Go.Proofs.YtbmcofdodfcnnaaGreatDoor
