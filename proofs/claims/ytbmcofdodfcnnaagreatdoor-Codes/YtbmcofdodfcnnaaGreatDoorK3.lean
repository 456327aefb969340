import Derived.Test.YtbmcofdodfcnnaaGreatDoorKA
import Derived.Deep.AppendLies
namespace Go
open Go.RowKit
/-- all stands as it was but the block c and the block g -/
structure Keeps (c : Nat) (g : Option Nat) (w w' : World) : Prop where
  os : w'.os = w.os
  tape : w'.tape = w.tape
  output : w'.output = w.output
  size : w.heap.size ≤ w'.heap.size
  block : ∀ b, b < w.heap.size → b ≠ c → g ≠ some b → w'.heap[b]? = w.heap[b]?
theorem Keeps.refl (c : Nat) (g : Option Nat) (w : World) : Keeps c g w w := ⟨rfl, rfl, rfl, Nat.le_refl _, fun _ _ _ _ => rfl⟩
theorem Keeps.of_below {c : Nat} {g : Option Nat} {w w' : World} (h : Below w.heap.size w w') : Keeps c g w w' := ⟨h.os, h.tape, h.output, h.size, fun b hb _ _ => h.block b hb⟩
theorem Keeps.of_grown {c : Nat} {g : Option Nat} {w w' : World} (h : w.grownBy w' g) : Keeps c g w w' := ⟨h.os, h.tape, h.output, h.size, fun b hb _ hg => h.block b hb (fun e => hg e.symm)⟩
theorem Keeps.trans {c : Nat} {g : Option Nat} {a b d : World} (h : Keeps c g a b) (k : Keeps c g b d) : Keeps c g a d :=
  ⟨k.os.trans h.os, k.tape.trans h.tape, k.output.trans h.output, Nat.le_trans h.size k.size, fun i hi hc hg => (k.block i (Nat.lt_of_lt_of_le hi h.size) hc hg).trans (h.block i hi hc hg)⟩
theorem Keeps.setCell (c : Nat) (g : Option Nat) (w : World) (q : Nat) (v : Value) : Keeps c g w (w.setCell ⟨c, q, none⟩ v) := by
  refine ⟨rfl, rfl, rfl, ?_, fun b _ hc _ => Below.heap_setCell _ _ _ _ (fun e => hc e)⟩
  simp [World.setCell]
theorem Keeps.below {c : Nat} {g : Option Nat} {B : Nat} {w0 w w' : World} (h : Keeps c g w w') (h0 : Below B w0 w) (hc : B ≤ c) (hg : ∀ b, g = some b → B ≤ b) (hB : B ≤ w0.heap.size) : Below B w0 w' :=
  ⟨h.os.trans h0.os, h.tape.trans h0.tape, h.output.trans h0.output, Nat.le_trans h0.size h.size, fun k hk => by
    rw [h.block k (Nat.lt_of_lt_of_le (Nat.lt_of_lt_of_le hk hB) h0.size) (by omega) (fun e => by have := hg k e; omega)]; exact h0.block k hk⟩
theorem CellsAt.keeps {c : Nat} {g : Option Nat} {w w' : World} {b : Nat} {vs : List Value} (h : CellsAt b vs w) (hk : Keeps c g w w') (hc : b ≠ c) (hg : g ≠ some b) : CellsAt b vs w' := by
  have e := hk.block b h.1 hc hg
  exact ⟨Nat.lt_of_lt_of_le h.1 hk.size, fun q => (World.frozen?_of_block (a := ⟨b, q, none⟩) e).trans (h.2.1 q), fun j v hj => (World.cell?_of_block (a := ⟨b, j, none⟩) e).trans (h.2.2 j v hj)⟩
theorem ownsRow_of_block {w w' : World} {base : Nat} {e : TypeId} {size : Nat} {v : Value} {n : Nat} {xs : List Value} (h : w.ownsRow base e size v n xs) (hb : ∀ g, v.ownBlock = some g → w'.heap[g]? = w.heap[g]?) : w'.ownsRow base e size v n xs := by
  obtain ⟨h1, h2 | ⟨g, cap, cur, hv, hg, hc, h3⟩⟩ := h
  · exact ⟨h1, .inl h2⟩
  · exact ⟨h1, .inr ⟨g, cap, cur, hv, hg, (hb g (by rw [hv]; rfl)).trans hc, h3⟩⟩
theorem CellsAt.set {b : Nat} {vs : List Value} {w : World} (h : CellsAt b vs w) (q : Nat) (v : Value) (hq : q < vs.length) : CellsAt b (vs.set q v) (w.setCell ⟨b, q, none⟩ v) := by
  refine ⟨by simpa [World.setCell] using h.1, fun p => ?_, fun j u hj => ?_⟩
  · rw [World.frozen?_setCell]; exact h.2.1 p
  · by_cases e : j = q
    · subst e
      rw [List.getElem?_set_self hq] at hj
      cases hj
      exact World.cell?_setCell_same _ _ _ (h.2.2 j _ (List.getElem?_eq_getElem hq))
    · rw [List.getElem?_set_ne (fun e' => e e'.symm)] at hj
      rw [World.cell?_setCell_other _ _ _ _ (by intro h'; exact e (by injection h' with _ h2; exact h2.symm))]
      exact h.2.2 j u hj
end Go
