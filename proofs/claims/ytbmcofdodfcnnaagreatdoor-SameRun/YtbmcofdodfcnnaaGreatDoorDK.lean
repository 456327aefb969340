import Derived.Test.YtbmcofdodfcnnaaGreatDoorGQB
import Derived.RangeFuncNested
import Derived.RangeFuncLeaves
import Derived.RangeFuncBound
import Derived.RangeFuncCalls
import Derived.Shelf.Abstract
import Derived.Shelf.RegionOpen
import Derived.WalkKit
import Derived.OwnWalkIn
import Derived.TacticsInMore
import Derived.LoopNIn
import Derived.LoopIn
import Derived.Test.YtbmcofdodfcnnaaGreatDoorGXA
import Derived.Test.YtbmcofdodfcnnaaGreatDoorGAC
import Derived.Test.YtbmcofdodfcnnaaGreatDoorGPR
import Derived.Test.YtbmcofdodfcnnaaGreatDoorGAW
import Derived.Deep.RegionHeld3
import Derived.Deep.DeepCutAuto
import Derived.Deep.CutRange
import Derived.Test.YtbmcofdodfcnnaaGreatDoorSD
import Derived.Test.YtbmcofdodfcnnaaGreatDoorGSC
import Derived.Test.YtbmcofdodfcnnaaGreatDoorEV
import Derived.Test.YtbmcofdodfcnnaaGreatDoorCards
import Derived.Test.YtbmcofdodfcnnaaGreatDoorTie
import Derived.Lay
import Derived.Deep.DeepHandedRow
import Derived.Deep.Slices
import Derived.OpenShut
import Derived.SizedLaws
import Derived.MakeChecks
import Derived.Carry
namespace Go.Proofs.YtbmcofdodfcnnaaGreatDoor
open Go.ChangeShapes Go.WideShapes Go.ChangeAt Go.RowKit
theorem cellsLine : Tryz.prog.cellsOf 80 = 6 := by kernel_rfl
theorem bytesLine : Tryz.prog.bytesOf 80 = 48 := by kernel_rfl
theorem add_flat {a : Addr} (h : a.spot = none) (n : Nat) : a.add n = ⟨a.block, a.off + n, none⟩ := by
  unfold Addr.add
  split
  · next e => subst e; cases a; simp at h; subst h; rfl
  · rfl
theorem cell_spot {w : World} {a : Addr} {v : Value} (h : w.cell? a = some v) : a.spot = none := by
  unfold World.cell? at h
  split at h
  · split at h
    · cases h
    · next e => simpa using e
  · cases h
theorem cells_nth {w : World} {base n : Nat} {a : Addr} {cs : List Value} (h : w.cells? base a n = some cs) {i : Nat} (hi : i < n) : w.cell? (a.add i) = cs[i]? := by
  unfold World.cells? at h
  split at h
  · obtain ⟨b, e1, e2⟩ := Lib.mapM_at h i i (by simp [hi])
    rw [e1]; exact e2
  · cases h
section
variable {H : Type} {enc : TypeId × Value → H} {w : World} {base : Nat} {sp : Nat → Bool} {hd : Bool}
theorem int_atB {fuel : Nat} {c : Value} {x : Option (DataW H × List MemPlace)} (h : DataW.trod enc Tryz.prog w base sp hd fuel 3 [c] = x) (hx : x.isSome = true) : ∃ k, c = .int .i64 k ∧ inB k := by
  obtain ⟨y, rfl⟩ := Option.isSome_iff_exists.1 hx
  obtain ⟨k, e, _, hw⟩ := DataW.trod_int Tryz.underlying3 h
  refine ⟨k, by simpa using e, ?_⟩
  simp [Lit.wf, IntKind.min, IntKind.max, IntKind.bits, IntKind.signed] at hw
  unfold inB
  omega
theorem line_at {fuel : Nat} {cs : List Value} {x : DataW H × List MemPlace} (h : DataW.trod enc Tryz.prog w base sp hd fuel 80 cs = some x) : ∃ o : RawL, RawOk o ∧ cs = rawC o := by
  obtain ⟨xs, n, _, _, hl, hlen, hf⟩ := DataW.trod_struct Tryz.underlying80 h
  rw [cellsLine] at hl
  have hlen6 : xs.length = 6 := hlen
  have hs : ∀ i, i < 6 → (xs[i]?).isSome = true := fun i hi => by rw [List.getElem?_eq_getElem (by omega)]; rfl
  obtain ⟨c0, r0, rfl, l0⟩ := uncons hl
  obtain ⟨c1, r1, rfl, l1⟩ := uncons l0
  obtain ⟨c2, r2, rfl, l2⟩ := uncons l1
  obtain ⟨c3, r3, rfl, l3⟩ := uncons l2
  obtain ⟨c4, r4, rfl, l4⟩ := uncons l3
  obtain ⟨c5, r5, rfl, l5⟩ := uncons l4
  obtain rfl := List.length_eq_zero_iff.1 l5
  have h0 : DataW.trod enc Tryz.prog w base sp hd n 3 (([c0, c1, c2, c3, c4, c5].drop 0).take (Tryz.prog.cellsOf 3)) = xs[0]? := hf 0 _ rfl
  have h1 : DataW.trod enc Tryz.prog w base sp hd n 3 (([c0, c1, c2, c3, c4, c5].drop 1).take (Tryz.prog.cellsOf 3)) = xs[1]? := hf 1 _ rfl
  have h2 : DataW.trod enc Tryz.prog w base sp hd n 3 (([c0, c1, c2, c3, c4, c5].drop 2).take (Tryz.prog.cellsOf 3)) = xs[2]? := hf 2 _ rfl
  have h3 : DataW.trod enc Tryz.prog w base sp hd n 3 (([c0, c1, c2, c3, c4, c5].drop 3).take (Tryz.prog.cellsOf 3)) = xs[3]? := hf 3 _ rfl
  have h4 : DataW.trod enc Tryz.prog w base sp hd n 3 (([c0, c1, c2, c3, c4, c5].drop 4).take (Tryz.prog.cellsOf 3)) = xs[4]? := hf 4 _ rfl
  have h5 : DataW.trod enc Tryz.prog w base sp hd n 3 (([c0, c1, c2, c3, c4, c5].drop 5).take (Tryz.prog.cellsOf 3)) = xs[5]? := hf 5 _ rfl
  rw [cells3] at h0 h1 h2 h3 h4 h5
  obtain ⟨k0, rfl, _⟩ := int_atB h0 (hs 0 (by omega))
  obtain ⟨k1, rfl, b1⟩ := int_atB h1 (hs 1 (by omega))
  obtain ⟨k2, rfl, b2⟩ := int_atB h2 (hs 2 (by omega))
  obtain ⟨k3, rfl, b3⟩ := int_atB h3 (hs 3 (by omega))
  obtain ⟨k4, rfl, b4⟩ := int_atB h4 (hs 4 (by omega))
  obtain ⟨k5, rfl, b5⟩ := int_atB h5 (hs 5 (by omega))
  exact ⟨⟨k0, k1, k2, k3, k4, k5⟩, ⟨b1, b2, b3, b4, b5⟩, rfl⟩
end
theorem lines_at {w : World} {a : Addr} {len : Nat} (h0 : 0 < len) (h : ∀ i, i < len → ∃ o : RawL, RawOk o ∧ w.cells? 0 (a.add (i * 6)) 6 = some (rawC o)) :
    ∃ l : List RawL, l.length = len ∧ (∀ x ∈ l, RawOk x) ∧ a.spot = none ∧ ∀ k x, l[k]? = some x → ∀ q u, (rawC x)[q]? = some u → w.cell? ⟨a.block, a.off + k * 6 + q, none⟩ = some u := by
  obtain ⟨f, hf⟩ := @Go.Deep.choose_lt RawL ⟨⟨0, 0, 0, 0, 0, 0⟩⟩ _ _ h
  have hsp : a.spot = none := by
    have hc := cells_nth (hf 0 h0).2 (i := 0) (by omega)
    have e : (a.add (0 * 6)).add 0 = a := by simp [Addr.add]
    rw [e] at hc
    exact cell_spot hc
  refine ⟨(List.range len).map f, by simp, ?_, hsp, ?_⟩
  · intro x hx
    obtain ⟨k, hk, rfl⟩ := List.mem_map.1 hx
    exact (hf k (List.mem_range.1 hk)).1
  · intro k x hx q u hu
    have hk : k < len := by
      have := (List.getElem?_eq_some_iff.1 hx).1
      simpa using this
    rw [List.getElem?_map, List.getElem?_range hk] at hx
    simp only [Option.map_some, Option.some.injEq] at hx
    have hq : q < 6 := (List.getElem?_eq_some_iff.1 hu).1
    have hc := cells_nth (hf k hk).2 (i := q) hq
    rw [add_flat hsp (k * 6)] at hc
    have e : (⟨a.block, a.off + k * 6, none⟩ : Addr).add q = ⟨a.block, a.off + k * 6 + q, none⟩ := add_flat rfl q
    rw [e, hx, hu] at hc
    exact hc
end Go.Proofs.YtbmcofdodfcnnaaGreatDoor
