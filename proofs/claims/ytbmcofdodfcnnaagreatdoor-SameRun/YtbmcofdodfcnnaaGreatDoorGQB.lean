import Derived.Test.YtbmcofdodfcnnaaGreatDoorGPY
import Derived.RangeFuncNested
import Derived.RangeFuncLeaves
import Derived.RangeFuncBound
import Derived.RangeFuncCalls
import Derived.Shelf.Abstract
import Derived.Shelf.RegionOpen
import Derived.WalkKit
import Derived.OwnWalkIn
import Derived.TacticsInMore
import Derived.LoopNIn
import Derived.LoopIn
import Derived.Test.YtbmcofdodfcnnaaGreatDoorGXA
import Derived.Test.YtbmcofdodfcnnaaGreatDoorGAC
namespace Pn
open Go
theorem exp_low {n : Int} {y : Ins} (h : expP n = (y, 0)) : n % 4 ≠ 3 := by
  unfold expP at h
  split at h
  · cases h
  · rename_i hn
    split at h
    · rename_i k hk
      have hk' := List.find?_some hk
      have hlt : k < 32 := by have := List.mem_of_find?_eq_some hk; simpa using this
      obtain ⟨m, rfl⟩ : ∃ m : Nat, n = m := ⟨n.toNat, by omega⟩
      have := fit_low hlt (hit_fit hk').1
      omega
    · cases h
theorem chk_two {i : Ins} {r : List UInt8} (hs : (shortP i).2 = 0) : chk (bytN 2 (shortP i).1 ++ r) = ⟨2, (shortP i).1, i⟩ := by
  obtain ⟨e1, e2, e3, _, _⟩ := exp_short (i := i) (h := (shortP i).1) (by rw [← hs])
  have ht : (bytN 2 (shortP i).1 ++ r).take 2 = bytN 2 (shortP i).1 := by rw [List.take_append_of_le_length (by rw [bytN_len]; omega), List.take_of_length_le (by rw [bytN_len]; omega)]
  have hn : numN (bytN 2 (shortP i).1) = (shortP i).1 := by rw [numN_bytN]; exact Int.emod_eq_of_lt e2 (by omega)
  unfold chk
  rw [ht, hn, e1, if_neg (by rw [List.length_append, bytN_len]; omega), if_pos rfl]
theorem chk_four {i : Ins} {r : List UInt8} (hr : right i = true) : chk (bytN 4 (enc i).1 ++ r) = ⟨4, (enc i).1, i⟩ := by
  obtain ⟨e1, _, e3, e4, e5⟩ := dec_enc hr
  have h4 : (bytN 4 (enc i).1 ++ r).take 4 = bytN 4 (enc i).1 := by rw [List.take_append_of_le_length (by rw [bytN_len]; omega), List.take_of_length_le (by rw [bytN_len]; omega)]
  have h2 : (bytN 4 (enc i).1 ++ r).take 2 = bytN 2 (enc i).1 := by rw [List.take_append_of_le_length (by rw [bytN_len]; omega), Go.Proofs.YtbmcofdodfcnnaaGreatDoor.bytN_take 4 _ 2 (by omega)]
  have n4 : numN (bytN 4 (enc i).1) = (enc i).1 := by rw [numN_bytN]; exact Int.emod_eq_of_lt e4 (by omega)
  have n2 : numN (bytN 2 (enc i).1) = (enc i).1 % 65536 := by rw [numN_bytN]; rfl
  have hx : ¬ (expP ((enc i).1 % 65536)).2 = 0 := fun h => by
    have := exp_low (n := (enc i).1 % 65536) (y := (expP ((enc i).1 % 65536)).1) (by rw [← h])
    omega
  have hl : (bytN 4 (enc i).1 ++ r).length = 4 + r.length := by rw [List.length_append, bytN_len]
  unfold chk
  rw [h4, h2, n4, n2, e1, if_neg (by omega), if_neg hx, if_pos ⟨by omega, rfl⟩]
theorem chk_bI {i : Ins} {size : Int} {r : List UInt8} (hr : right i = true) (hs : size = 2 ∨ size = 4) (h2 : size = 2 → (shortP i).2 = 0) : (chk (bI i size ++ r)).ins = i ∧ ((chk (bI i size ++ r)).size : Int) = size ∧ ((bI i size).length : Int) = size := by
  unfold bI
  rcases hs with rfl | rfl
  · rw [if_pos rfl, chk_two (h2 rfl), bytN_len]
    exact ⟨rfl, rfl, rfl⟩
  · rw [if_neg (by omega), chk_four hr, bytN_len]
    exact ⟨rfl, rfl, rfl⟩
end Pn
namespace Go.Proofs.YtbmcofdodfcnnaaGreatDoor
open Go.RowKit
abbrev IX : Type := Pn.Ins × Int
def bX (x : IX) : List UInt8 := Pn.bI x.1 x.2
def XOk (x : IX) : Prop := Pn.right x.1 = true ∧ (x.2 = 2 ∨ x.2 = 4) ∧ (x.2 = 2 → (Pn.shortP x.1).2 = 0)
def pX (l : List Pn.Sta) (short : Bool) : List IX := (Pn.pL l short).mapIdx fun k x => (Pn.pI l short k x.p, x.size)
theorem pX_ok {l : List Pn.Sta} (h : ∀ x ∈ l, Pn.StaOk l.length x) (hl : l.length ≤ 24) (short : Bool) : ∀ x ∈ pX l short, XOk x := fun x hx => by
  obtain ⟨k, hk⟩ := List.getElem?_of_mem hx
  simp only [pX, List.getElem?_mapIdx, Option.map_eq_some_iff] at hk
  obtain ⟨y, hy, rfl⟩ := hk
  obtain ⟨g1, g2, _⟩ := Pn.pL_ins h hl hy
  exact ⟨g1, (Pn.pL_at h hy).2.1, g2⟩
theorem pX_flat (l : List Pn.Sta) (short : Bool) : (List.range (Pn.pL l short).length).flatMap (Pn.bAll l short) = (pX l short).flatMap bX := by
  have e := flat_range (pX l short) bX
  have hlen : (pX l short).length = (Pn.pL l short).length := by simp [pX]
  rw [hlen] at e
  rw [← e]
  congr 1
  funext k
  unfold Pn.bAll bAt pX
  rw [List.getElem?_mapIdx]
  cases (Pn.pL l short)[k]? <;> rfl
end Go.Proofs.YtbmcofdodfcnnaaGreatDoor
namespace Go.Proofs.YtbmcofdodfcnnaaGreatDoor
open Go.RowKit
abbrev isHalf (s : List UInt8) (k : Nat) (h : Int) : Prop := k + 2 ≤ s.length ∧ ((s.getD k 0).toNat : Int) = h % 256 ∧ ((s.getD (k + 1) 0).toNat : Int) = h / 256
theorem byte_of {x : Int} (h0 : 0 ≤ x) (h1 : x < 256) : ((UInt8.ofNat x.toNat).toNat : Int) = x := by
  rw [UInt8.toNat_ofNat']
  omega
theorem half_two {i : Pn.Ins} {p r : List UInt8} (hs : (Pn.shortP i).2 = 0) : isHalf (p ++ (Pn.bI i 2 ++ r)) p.length (Pn.shortP i).1 := by
  obtain ⟨_, e2, e3, _, _⟩ := Pn.exp_short (i := i) (h := (Pn.shortP i).1) (by rw [← hs])
  have hb : Pn.bI i 2 = [UInt8.ofNat ((Pn.shortP i).1 % 256).toNat, UInt8.ofNat ((Pn.shortP i).1 / 256 % 256).toNat] := rfl
  rw [hb]
  refine ⟨by simp, ?_, ?_⟩
  · have e : (p ++ ([UInt8.ofNat ((Pn.shortP i).1 % 256).toNat, UInt8.ofNat ((Pn.shortP i).1 / 256 % 256).toNat] ++ r)).getD p.length 0 = UInt8.ofNat ((Pn.shortP i).1 % 256).toNat := by simp [List.getD]
    rw [e, byte_of (by omega) (by omega)]
  · have e : (p ++ ([UInt8.ofNat ((Pn.shortP i).1 % 256).toNat, UInt8.ofNat ((Pn.shortP i).1 / 256 % 256).toNat] ++ r)).getD (p.length + 1) 0 = UInt8.ofNat ((Pn.shortP i).1 / 256 % 256).toNat := by
      rw [List.getD, List.getElem?_append_right (by omega)]
      simp
    rw [e, byte_of (by omega) (by omega)]
    omega
theorem bX_len {x : IX} (h : XOk x) : (bX x).length = x.2.toNat := by
  have := (Pn.chk_bI (r := []) h.1 h.2.1 h.2.2).2.2
  unfold bX
  omega
end Go.Proofs.YtbmcofdodfcnnaaGreatDoor
namespace Go.Proofs.YtbmcofdodfcnnaaGreatDoor
open Go.RowKit
def placeX (xs : List IX) (j : Nat) : Nat := ((xs.take j).flatMap bX).length
theorem range_take {xs : List IX} : ∀ j, j ≤ xs.length → (List.range j).flatMap (bAt bX xs) = (xs.take j).flatMap bX
  | 0, _ => rfl
  | j + 1, hj => by
    have hx : xs[j]? = some xs[j] := List.getElem?_eq_getElem (by omega)
    rw [List.range_succ, List.flatMap_append, range_take j (by omega), List.take_succ_eq_append_getElem (by omega), List.flatMap_append]
    simp [bAt_some hx]
theorem bAll_at (l : List Pn.Sta) (short : Bool) : Pn.bAll l short = bAt bX (pX l short) := by
  funext k
  unfold Pn.bAll bAt pX
  rw [List.getElem?_mapIdx]
  cases (Pn.pL l short)[k]? <;> rfl
theorem plq_place {l : List Pn.Sta} (h : ∀ x ∈ l, Pn.StaOk l.length x) (hl : l.length ≤ 24) (short : Bool) {j : Nat} (hj : j ≤ (Pn.pL l short).length) : Pn.plq (Pn.pL l short) j = placeX (pX l short) j := by
  have hlen : (pX l short).length = (Pn.pL l short).length := by simp [pX]
  rw [(Pn.asm_prog h hl short).2 j hj, bAll_at, range_take j (by omega)]
  rfl
end Go.Proofs.YtbmcofdodfcnnaaGreatDoor
namespace Go.Proofs.YtbmcofdodfcnnaaGreatDoor
open Go.RowKit
theorem at_app (p q : List UInt8) (j : Nat) : (p ++ q).getD (p.length + j) 0 = q.getD j 0 := by
  rw [List.getD, List.getD, List.getElem?_append_right (by omega), Nat.add_sub_cancel_left]
theorem two_by {i : Pn.Ins} {p r : List UInt8} (hs : (Pn.shortP i).2 = 0) :
    (((p ++ (Pn.bI i 2 ++ r)).getD p.length 0).toNat : Int) + 256 * ((p ++ (Pn.bI i 2 ++ r)).getD (p.length + 1) 0).toNat = (Pn.shortP i).1 ∧ (((p ++ (Pn.bI i 2 ++ r)).getD p.length 0).toNat : Int) % 4 ≠ 3 ∧ Pn.expP (Pn.shortP i).1 = (i, 0) := by
  obtain ⟨h1, h2, h3⟩ := half_two (p := p) (r := r) hs
  obtain ⟨e1, e2, e3, e4, _⟩ := Pn.exp_short (i := i) (h := (Pn.shortP i).1) (by rw [← hs])
  rw [h2, h3]
  exact ⟨by omega, by omega, e1⟩
theorem four_by {i : Pn.Ins} {p r : List UInt8} (hr : Pn.right i = true) :
    (((p ++ (Pn.bI i 4 ++ r)).getD p.length 0).toNat : Int) % 4 = 3 ∧ p.length + 4 ≤ (p ++ (Pn.bI i 4 ++ r)).length ∧
      (((p ++ (Pn.bI i 4 ++ r)).getD p.length 0).toNat : Int) + 256 * ((p ++ (Pn.bI i 4 ++ r)).getD (p.length + 1) 0).toNat + 65536 * ((p ++ (Pn.bI i 4 ++ r)).getD (p.length + 2) 0).toNat + 16777216 * ((p ++ (Pn.bI i 4 ++ r)).getD (p.length + 3) 0).toNat = (Pn.enc i).1 ∧
      Pn.dec (Pn.enc i).1 = (i, 0) := by
  obtain ⟨d1, _, d3, d4, d5⟩ := Pn.dec_enc hr
  have hb : Pn.bI i 4 = [UInt8.ofNat ((Pn.enc i).1 % 256).toNat, UInt8.ofNat ((Pn.enc i).1 / 256 % 256).toNat, UInt8.ofNat ((Pn.enc i).1 / 256 / 256 % 256).toNat, UInt8.ofNat ((Pn.enc i).1 / 256 / 256 / 256 % 256).toNat] := rfl
  have a0 := at_app p (Pn.bI i 4 ++ r) 0
  rw [at_app p (Pn.bI i 4 ++ r) 1, at_app p (Pn.bI i 4 ++ r) 2, at_app p (Pn.bI i 4 ++ r) 3, show p.length = p.length + 0 from rfl, a0, hb]
  have g0 : ∀ (a b c d : UInt8), ([a, b, c, d] ++ r).getD 0 0 = a ∧ ([a, b, c, d] ++ r).getD 1 0 = b ∧ ([a, b, c, d] ++ r).getD 2 0 = c ∧ ([a, b, c, d] ++ r).getD 3 0 = d := fun a b c d => ⟨rfl, rfl, rfl, rfl⟩
  obtain ⟨g1, g2, g3, g4⟩ := g0 (UInt8.ofNat ((Pn.enc i).1 % 256).toNat) (UInt8.ofNat ((Pn.enc i).1 / 256 % 256).toNat) (UInt8.ofNat ((Pn.enc i).1 / 256 / 256 % 256).toNat) (UInt8.ofNat ((Pn.enc i).1 / 256 / 256 / 256 % 256).toNat)
  rw [g1, g2, g3, g4, byte_of (by omega) (by omega), byte_of (by omega) (by omega), byte_of (by omega) (by omega), byte_of (by omega) (by omega)]
  refine ⟨by omega, by simp, by omega, d1⟩
end Go.Proofs.YtbmcofdodfcnnaaGreatDoor
namespace Go.Proofs.YtbmcofdodfcnnaaGreatDoor
open Go.RowKit
def byN (L : List UInt8) (k : Nat) : Int := ((L.getD k 0).toNat : Int)
theorem place_zero (xs : List IX) : placeX xs 0 = 0 := by simp [placeX]
theorem place_succ {xs : List IX} {j : Nat} {x : IX} (hx : xs[j]? = some x) : placeX xs (j + 1) = placeX xs j + (bX x).length := by
  obtain ⟨hj, e⟩ := List.getElem?_eq_some_iff.1 hx
  unfold placeX
  rw [List.take_succ_eq_append_getElem hj, List.flatMap_append, List.length_append, e]
  simp
theorem place_split {xs : List IX} {j : Nat} {x : IX} (hx : xs[j]? = some x) : xs.flatMap bX = (xs.take j).flatMap bX ++ (bX x ++ (xs.drop (j + 1)).flatMap bX) := by
  obtain ⟨hj, e⟩ := List.getElem?_eq_some_iff.1 hx
  have h1 : xs = xs.take j ++ (x :: xs.drop (j + 1)) := by
    rw [← e, ← List.drop_eq_getElem_cons hj, List.take_append_drop]
  conv => lhs; rw [h1]
  simp
theorem place_lt {xs : List IX} (h : ∀ x ∈ xs, XOk x) {j : Nat} (hj : j < xs.length) : placeX xs j + 2 ≤ (xs.flatMap bX).length := by
  have hx : xs[j]? = some xs[j] := List.getElem?_eq_getElem hj
  have ho := h _ (List.getElem_mem hj)
  have hb := bX_len ho
  rw [place_split hx, List.length_append, List.length_append]
  unfold placeX
  rcases ho.2.1 with e | e <;> omega
theorem flat_len {xs : List IX} (h : ∀ x ∈ xs, XOk x) : (xs.flatMap bX).length ≤ 4 * xs.length := by
  induction xs with
  | nil => simp
  | cons x xs ih =>
    have ho := h x List.mem_cons_self
    have hb := bX_len ho
    have := ih fun y hy => h y (List.mem_cons_of_mem _ hy)
    rw [List.flatMap_cons, List.length_append, List.length_cons]
    rcases ho.2.1 with e | e <;> omega
end Go.Proofs.YtbmcofdodfcnnaaGreatDoor
