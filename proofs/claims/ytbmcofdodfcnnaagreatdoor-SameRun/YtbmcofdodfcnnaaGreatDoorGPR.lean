import Derived.RangeFuncNested
import Derived.RangeFuncBound
import Derived.RangeFuncCalls
import Derived.RangeFuncLeaves
import Derived.Shelf.Abstract
import Derived.Shelf.RegionOpen
import Derived.WalkKit
import Derived.OwnWalkIn
import Derived.TacticsInMore
import Derived.LoopNIn
import Derived.LoopIn
import Derived.Test.YtbmcofdodfcnnaaGreatDoorGXA
import Derived.Test.YtbmcofdodfcnnaaGreatDoorGAC
import Derived.Test.YtbmcofdodfcnnaaGreatDoorGNN
import Derived.Test.YtbmcofdodfcnnaaGreatDoorGAW
namespace Pn
open Go
theorem idx_at : ∀ (T r : List UInt8) (c : UInt8), (∀ x ∈ T, x ≠ c) → Lib.index (T ++ c :: r) [c] = T.length
  | [], r, c, _ => by simp [Lib.index]
  | x :: T, r, c, h => by
    have hx : x ≠ c := h x (by simp)
    have ih := idx_at T r c (fun y hy => h y (by simp [hy]))
    simp only [List.cons_append]
    unfold Lib.index
    simp [ih]
    exact fun e => absurd e.symm hx
end Pn
namespace Go.Proofs.YtbmcofdodfcnnaaGreatDoor
open Go.RowKit Go.Maps
theorem byqs_take {P : List Int} {N : List (List UInt8 × Nat)} {L : List Pn.Qt} {g : Nat → List UInt8} (h : ∀ (k : Nat) (x : Pn.Qt), L[k]? = some x → Pn.byq P N k x = some (g k) ∧ ((g k).length : Int) = x.size) : ∀ j, j ≤ L.length → Pn.byqs P N L j = (List.range j).flatMap g ∧ Pn.plq L j = ((List.range j).flatMap g).length
  | 0, _ => by simp [Pn.byqs, Pn.plq]
  | j + 1, hj => by
    obtain ⟨x, hx⟩ : ∃ x, L[j]? = some x := ⟨_, List.getElem?_eq_getElem (by omega)⟩
    obtain ⟨h1, h2⟩ := h j x hx
    obtain ⟨i1, i2⟩ := byqs_take h j (by omega)
    rw [List.range_succ, List.flatMap_append]
    constructor
    · simp only [Pn.byqs, hx, h1, i1]
      simp
    · simp only [Pn.plq, hx, i2, List.length_append]
      simp [h2]
def bAt {α : Type} (f : α → List UInt8) (xs : List α) (k : Nat) : List UInt8 := match xs[k]? with | some x => f x | none => []
theorem bAt_some {α : Type} {f : α → List UInt8} {xs : List α} {k : Nat} {x : α} (h : xs[k]? = some x) : bAt f xs k = f x := by simp [bAt, h]
theorem flat_range {α : Type} (xs : List α) (f : α → List UInt8) : (List.range xs.length).flatMap (bAt f xs) = xs.flatMap f := by
  induction xs with
  | nil => simp
  | cons x xs ih =>
    rw [List.length_cons, List.range_succ_eq_map, List.flatMap_cons, List.flatMap_map]
    rw [List.flatMap_cons, bAt_some (x := x) rfl, ← ih]
    congr 1
end Go.Proofs.YtbmcofdodfcnnaaGreatDoor
namespace Go.Proofs.YtbmcofdodfcnnaaGreatDoor
open Go.RowKit
set_option maxRecDepth 20000 in
theorem passemble_any (s : ByteArray) (short : Bool) (w : World) (hE : Env w) :
    Calls Tryz.prog 21 #[.string s, .bool short] w fun e w' => e = .returned (.tuple #[.string ⟨(asmA s short).1.toArray⟩, .agg #[.int .i64 (asmA s short).2.1, .int .i64 (asmA s short).2.2]]) ∧ Below w.heap.size w w' := by
  have HF : Hid (CellsAt w.heap.size [.int .i64 0, .int .i64 0] (w.alloc (.cells #[.int .i64 0, .int .i64 0] 39))) := hid (CellsAt.new w [.int .i64 0, .int .i64 0] 39)
  have HB : Hid (Below w.heap.size w (w.alloc (.cells #[.int .i64 0, .int .i64 0] 39))) := hid ((Below.refl _ _).alloc (Nat.le_refl _) _)
  have H := hid (fun w' h => assemble_any s short w' h)
  have HE := hid (hE.below HB.out hE.1)
  generalize asmA s short = X at *
  obtain ⟨x1, x2, x3⟩ := X
  simp only at H
  clear hE
  go_enter Tryz.func21, Tryz.ntmps21
  go_wp2_with fail
  generalize w.alloc _ = W at *
  refine (H.out _ HE.out).mono ?_
  rintro e w1 ⟨rfl, hB1⟩
  have HF := hid (HF.out.next hB1)
  have HB := hid (HB.out.trans (hB1.mono HB.out.size))
  have q0 := HF.out.2.2 0 _ rfl
  have q1 := HF.out.2.2 1 _ rfl
  have qf := HF.out.2.1
  clear hB1
  go_wp2_with fail
  refine bodyPost_ret (v := .tuple #[.string ⟨x1.toArray⟩, .agg #[.int .i64 x2, .int .i64 x3]]) (by simp [results, Tryz.results21, go_sem, q0, q1]) rfl ⟨rfl, ?_⟩
  exact (HB.out.setCell (by simp) _).setCell (by simp) _
theorem ba_eta (s : ByteArray) : (⟨s.data.toList.toArray⟩ : ByteArray) = s := by cases s; simp
end Go.Proofs.YtbmcofdodfcnnaaGreatDoor
