import Derived.Test.YtbmcofdodfcnnaaGreatDoorGPY
import Derived.Test.YtbmcofdodfcnnaaGreatDoorGXF
namespace Pn
open Go
theorem exp_low {n : Int} {y : Ins} (h : expP n = (y, 0)) : n % 4 ≠ 3 := by
  unfold expP at h
  split at h
  · cases h
  · rename_i hn
    split at h
    · rename_i k hk
      have hk' := List.find?_some hk
      have hlt : k < 32 := by have := List.mem_of_find?_eq_some hk; simpa using this
      obtain ⟨m, rfl⟩ : ∃ m : Nat, n = m := ⟨n.toNat, by omega⟩
      have := fit_low hlt (hit_fit hk').1
      omega
    · cases h
theorem chk_two {i : Ins} {r : List UInt8} (hs : (shortP i).2 = 0) : chk (bytN 2 (shortP i).1 ++ r) = ⟨2, (shortP i).1, i⟩ := by
  obtain ⟨e1, e2, e3, _, _⟩ := exp_short (i := i) (h := (shortP i).1) (by rw [← hs])
  have ht : (bytN 2 (shortP i).1 ++ r).take 2 = bytN 2 (shortP i).1 := by rw [List.take_append_of_le_length (by rw [bytN_len]; omega), List.take_of_length_le (by rw [bytN_len]; omega)]
  have hn : numN (bytN 2 (shortP i).1) = (shortP i).1 := by rw [numN_bytN]; exact Int.emod_eq_of_lt e2 (by omega)
  unfold chk
  rw [ht, hn, e1, if_neg (by rw [List.length_append, bytN_len]; omega), if_pos rfl]
theorem chk_four {i : Ins} {r : List UInt8} (hr : right i = true) : chk (bytN 4 (enc i).1 ++ r) = ⟨4, (enc i).1, i⟩ := by
  obtain ⟨e1, _, e3, e4, e5⟩ := dec_enc hr
  have h4 : (bytN 4 (enc i).1 ++ r).take 4 = bytN 4 (enc i).1 := by rw [List.take_append_of_le_length (by rw [bytN_len]; omega), List.take_of_length_le (by rw [bytN_len]; omega)]
  have h2 : (bytN 4 (enc i).1 ++ r).take 2 = bytN 2 (enc i).1 := by rw [List.take_append_of_le_length (by rw [bytN_len]; omega), Go.Proofs.YtbmcofdodfcnnaaGreatDoor.bytN_take 4 _ 2 (by omega)]
  have n4 : numN (bytN 4 (enc i).1) = (enc i).1 := by rw [numN_bytN]; exact Int.emod_eq_of_lt e4 (by omega)
  have n2 : numN (bytN 2 (enc i).1) = (enc i).1 % 65536 := by rw [numN_bytN]; rfl
  have hx : ¬ (expP ((enc i).1 % 65536)).2 = 0 := fun h => by
    have := exp_low (n := (enc i).1 % 65536) (y := (expP ((enc i).1 % 65536)).1) (by rw [← h])
    omega
  have hl : (bytN 4 (enc i).1 ++ r).length = 4 + r.length := by rw [List.length_append, bytN_len]
  unfold chk
  rw [h4, h2, n4, n2, e1, if_neg (by omega), if_neg hx, if_pos ⟨by omega, rfl⟩]
theorem chk_bI {i : Ins} {size : Int} {r : List UInt8} (hr : right i = true) (hs : size = 2 ∨ size = 4) (h2 : size = 2 → (shortP i).2 = 0) : (chk (bI i size ++ r)).ins = i ∧ ((chk (bI i size ++ r)).size : Int) = size ∧ ((bI i size).length : Int) = size := by
  unfold bI
  rcases hs with rfl | rfl
  · rw [if_pos rfl, chk_two (h2 rfl), bytN_len]
    exact ⟨rfl, rfl, rfl⟩
  · rw [if_neg (by omega), chk_four hr, bytN_len]
    exact ⟨rfl, rfl, rfl⟩
end Pn
namespace Go.Proofs.YtbmcofdodfcnnaaGreatDoor
open Go.RowKit
abbrev IX : Type := Pn.Ins × Int
def bX (x : IX) : List UInt8 := Pn.bI x.1 x.2
def XOk (x : IX) : Prop := Pn.right x.1 = true ∧ (x.2 = 2 ∨ x.2 = 4) ∧ (x.2 = 2 → (Pn.shortP x.1).2 = 0)
def itX (k : Nat) : List IX → List IT
  | [] => []
  | x :: xs => (k, x.1) :: itX (k + x.2.toNat) xs
theorem zB_right {i : Pn.Ins} (h : Pn.right i = true) : zB i = false := by
  obtain ⟨k, hk, ho⟩ := Pn.right_op h
  unfold zB
  have : (i.op == 0) = false := by simp; omega
  rw [this]
  rfl
theorem chkF_X : ∀ (xs : List IX) (n k : Nat), (∀ x ∈ xs, XOk x) → (xs.flatMap bX).length ≤ n → (chkF n k (xs.flatMap bX)).map itOf = itX k xs ∧ ∀ y ∈ chkF n k (xs.flatMap bX), zB y.1.2.ins = false
  | [], n, k, _, _ => by
    rw [List.flatMap_nil, chkF_nil]
    exact ⟨rfl, fun y hy => by cases hy⟩
  | x :: xs, n, k, h, hn => by
    obtain ⟨hr, hs, h2⟩ := h x List.mem_cons_self
    obtain ⟨c1, c2, c3⟩ := Pn.chk_bI (r := xs.flatMap bX) hr hs h2
    rw [List.flatMap_cons] at hn ⊢
    have hb : bX x = Pn.bI x.1 x.2 := rfl
    rw [hb] at hn ⊢
    rw [List.length_append] at hn
    have hne : ¬ (Pn.bI x.1 x.2 ++ xs.flatMap bX = []) := fun e => by
      have := congrArg List.length e
      rw [List.length_append] at this
      simp only [List.length_nil] at this
      omega
    obtain ⟨m, rfl⟩ : ∃ m, n = m + 1 := ⟨n - 1, by omega⟩
    have hsz : (Pn.chk (Pn.bI x.1 x.2 ++ xs.flatMap bX)).size = x.2.toNat := by omega
    have hdr : (Pn.bI x.1 x.2 ++ xs.flatMap bX).drop (Pn.chk (Pn.bI x.1 x.2 ++ xs.flatMap bX)).size = xs.flatMap bX := by
      rw [hsz, List.drop_left' (by omega)]
    obtain ⟨i1, i2⟩ := chkF_X xs m (k + x.2.toNat) (fun y hy => h y (List.mem_cons_of_mem _ hy)) (by omega)
    rw [chkF, dif_neg hne, hdr, hsz]
    constructor
    · rw [List.map_cons, i1, itX]
      simp only [itOf, c1]
    · intro y hy
      rcases List.mem_cons.1 hy with rfl | hy
      · simp only [c1]
        exact zB_right hr
      · exact i2 y hy
theorem items_X {xs : List IX} (h : ∀ x ∈ xs, XOk x) {s : ByteArray} (hs : s.data.toList = xs.flatMap bX) : itemsL s = itX 0 xs := by
  have hl : (xs.flatMap bX).length ≤ s.size := by rw [← hs, size_list]; exact Nat.le_refl _
  obtain ⟨h1, h2⟩ := chkF_X xs s.size 0 h hl
  unfold itemsL
  rw [hs, tw_self _ (fun y hy => by rw [h2 y hy]; rfl), h1]
def pX (l : List Pn.Sta) (short : Bool) : List IX := (Pn.pL l short).mapIdx fun k x => (Pn.pI l short k x.p, x.size)
theorem pX_ok {l : List Pn.Sta} (h : ∀ x ∈ l, Pn.StaOk l.length x) (hl : l.length ≤ 24) (short : Bool) : ∀ x ∈ pX l short, XOk x := fun x hx => by
  obtain ⟨k, hk⟩ := List.getElem?_of_mem hx
  simp only [pX, List.getElem?_mapIdx, Option.map_eq_some_iff] at hk
  obtain ⟨y, hy, rfl⟩ := hk
  obtain ⟨g1, g2, _⟩ := Pn.pL_ins h hl hy
  exact ⟨g1, (Pn.pL_at h hy).2.1, g2⟩
theorem pX_flat (l : List Pn.Sta) (short : Bool) : (List.range (Pn.pL l short).length).flatMap (Pn.bAll l short) = (pX l short).flatMap bX := by
  have e := flat_range (pX l short) bX
  have hlen : (pX l short).length = (Pn.pL l short).length := by simp [pX]
  rw [hlen] at e
  rw [← e]
  congr 1
  funext k
  unfold Pn.bAll bAt pX
  rw [List.getElem?_mapIdx]
  cases (Pn.pL l short)[k]? <;> rfl
end Go.Proofs.YtbmcofdodfcnnaaGreatDoor
namespace Go.Proofs.YtbmcofdodfcnnaaGreatDoor
open Go.RowKit
abbrev isHalf (s : List UInt8) (k : Nat) (h : Int) : Prop := k + 2 ≤ s.length ∧ ((s.getD k 0).toNat : Int) = h % 256 ∧ ((s.getD (k + 1) 0).toNat : Int) = h / 256
theorem byte_of {x : Int} (h0 : 0 ≤ x) (h1 : x < 256) : ((UInt8.ofNat x.toNat).toNat : Int) = x := by
  rw [UInt8.toNat_ofNat']
  omega
theorem half_two {i : Pn.Ins} {p r : List UInt8} (hs : (Pn.shortP i).2 = 0) : isHalf (p ++ (Pn.bI i 2 ++ r)) p.length (Pn.shortP i).1 := by
  obtain ⟨_, e2, e3, _, _⟩ := Pn.exp_short (i := i) (h := (Pn.shortP i).1) (by rw [← hs])
  have hb : Pn.bI i 2 = [UInt8.ofNat ((Pn.shortP i).1 % 256).toNat, UInt8.ofNat ((Pn.shortP i).1 / 256 % 256).toNat] := rfl
  rw [hb]
  refine ⟨by simp, ?_, ?_⟩
  · have e : (p ++ ([UInt8.ofNat ((Pn.shortP i).1 % 256).toNat, UInt8.ofNat ((Pn.shortP i).1 / 256 % 256).toNat] ++ r)).getD p.length 0 = UInt8.ofNat ((Pn.shortP i).1 % 256).toNat := by simp [List.getD]
    rw [e, byte_of (by omega) (by omega)]
  · have e : (p ++ ([UInt8.ofNat ((Pn.shortP i).1 % 256).toNat, UInt8.ofNat ((Pn.shortP i).1 / 256 % 256).toNat] ++ r)).getD (p.length + 1) 0 = UInt8.ofNat ((Pn.shortP i).1 / 256 % 256).toNat := by
      rw [List.getD, List.getElem?_append_right (by omega)]
      simp
    rw [e, byte_of (by omega) (by omega)]
    omega
theorem half_four {i j : Pn.Ins} {p r : List UInt8} (hr : Pn.right i = true) (hs : (Pn.shortP j).2 = 0) : ¬ isHalf (p ++ (Pn.bI i 4 ++ r)) p.length (Pn.shortP j).1 := by
  obtain ⟨_, e2, e3, e4, _⟩ := Pn.exp_short (i := j) (h := (Pn.shortP j).1) (by rw [← hs])
  obtain ⟨_, _, d3, d4, d5⟩ := Pn.dec_enc hr
  rintro ⟨_, h1, _⟩
  have hb : ∃ t, Pn.bI i 4 = UInt8.ofNat ((Pn.enc i).1 % 256).toNat :: t := ⟨_, rfl⟩
  obtain ⟨t, hb⟩ := hb
  rw [hb] at h1
  have e : (p ++ (UInt8.ofNat ((Pn.enc i).1 % 256).toNat :: t ++ r)).getD p.length 0 = UInt8.ofNat ((Pn.enc i).1 % 256).toNat := by simp [List.getD]
  rw [e, byte_of (by omega) (by omega)] at h1
  omega
def nextE (s : List UInt8) (x : IT) : Nat := if (Pn.shortP x.2).2 = 0 ∧ isHalf s x.1 (Pn.shortP x.2).1 then x.1 + 2 else x.1 + 4
def runE (s : List UInt8) : Nat → List IT → Option Nat
  | e, [] => some e
  | e, x :: xs => if x.1 = e ∧ x.1 < 4096 then runE s (nextE s x) xs else none
theorem runE_snoc (s : List UInt8) (x : IT) : ∀ (pre : List IT) (e : Nat), runE s e (pre ++ [x]) = (runE s e pre).bind fun e' => if x.1 = e' ∧ x.1 < 4096 then some (nextE s x) else none
  | [], e => by simp [runE]
  | y :: pre, e => by
    rw [List.cons_append, runE, runE]
    split
    · exact runE_snoc s x pre _
    · rfl
theorem bX_len {x : IX} (h : XOk x) : (bX x).length = x.2.toNat := by
  have := (Pn.chk_bI (r := []) h.1 h.2.1 h.2.2).2.2
  unfold bX
  omega
theorem run_X (s : List UInt8) (hl : s.length ≤ 4096) : ∀ (xs : List IX) (p : List UInt8), (∀ x ∈ xs, XOk x) → s = p ++ xs.flatMap bX → runE s p.length (itX p.length xs) = some s.length
  | [], p, _, hs => by rw [hs]; simp [itX, runE]
  | x :: xs, p, h, hs => by
    have hx := h x List.mem_cons_self
    have hb := bX_len hx
    rw [List.flatMap_cons] at hs
    have hpos : 2 ≤ (bX x).length := by rcases hx.2.1 with e | e <;> omega
    have hlen : p.length + (bX x).length ≤ s.length := by rw [hs]; simp
    have hn : nextE s (p.length, x.1) = p.length + x.2.toNat := by
      unfold nextE
      simp only
      rcases hx.2.1 with e2 | e4
      · have hh := half_two (p := p) (r := xs.flatMap bX) (hx.2.2 e2)
        have eb : bX x = Pn.bI x.1 2 := by unfold bX; rw [e2]
        rw [← eb, ← hs] at hh
        rw [if_pos ⟨hx.2.2 e2, hh⟩, e2]
        rfl
      · have eb : bX x = Pn.bI x.1 4 := by unfold bX; rw [e4]
        rw [if_neg (fun hc => by
          have := half_four (i := x.1) (j := x.1) (p := p) (r := xs.flatMap bX) hx.1 hc.1
          rw [← eb, ← hs] at this
          exact this hc.2), e4]
        rfl
    rw [itX, runE, if_pos ⟨rfl, by simp only; omega⟩, hn]
    have ih := run_X s hl xs (p ++ bX x) (fun y hy => h y (List.mem_cons_of_mem _ hy)) (by rw [hs, List.append_assoc])
    rw [List.length_append, hb] at ih
    exact ih
end Go.Proofs.YtbmcofdodfcnnaaGreatDoor
namespace Go.Proofs.YtbmcofdodfcnnaaGreatDoor
open Go.RowKit
def placeX (xs : List IX) (j : Nat) : Nat := ((xs.take j).flatMap bX).length
theorem itX_at : ∀ (xs : List IX) (k j : Nat), (∀ x ∈ xs, XOk x) → (itX k xs)[j]? = xs[j]?.map (fun x => (k + placeX xs j, x.1))
  | [], k, j, _ => by simp [itX]
  | x :: xs, k, 0, _ => by simp [itX, placeX]
  | x :: xs, k, j + 1, h => by
    have hb := bX_len (h x List.mem_cons_self)
    rw [itX, List.getElem?_cons_succ, itX_at xs _ j (fun y hy => h y (List.mem_cons_of_mem _ hy)), List.getElem?_cons_succ]
    have e : k + x.2.toNat + placeX xs j = k + placeX (x :: xs) (j + 1) := by
      unfold placeX
      rw [List.take_succ_cons, List.flatMap_cons, List.length_append, hb]
      omega
    rw [e]
theorem range_take {xs : List IX} : ∀ j, j ≤ xs.length → (List.range j).flatMap (bAt bX xs) = (xs.take j).flatMap bX
  | 0, _ => rfl
  | j + 1, hj => by
    have hx : xs[j]? = some xs[j] := List.getElem?_eq_getElem (by omega)
    rw [List.range_succ, List.flatMap_append, range_take j (by omega), List.take_succ_eq_append_getElem (by omega), List.flatMap_append]
    simp [bAt_some hx]
theorem bAll_at (l : List Pn.Sta) (short : Bool) : Pn.bAll l short = bAt bX (pX l short) := by
  funext k
  unfold Pn.bAll bAt pX
  rw [List.getElem?_mapIdx]
  cases (Pn.pL l short)[k]? <;> rfl
theorem plq_place {l : List Pn.Sta} (h : ∀ x ∈ l, Pn.StaOk l.length x) (hl : l.length ≤ 24) (short : Bool) {j : Nat} (hj : j ≤ (Pn.pL l short).length) : Pn.plq (Pn.pL l short) j = placeX (pX l short) j := by
  have hlen : (pX l short).length = (Pn.pL l short).length := by simp [pX]
  rw [(Pn.asm_prog h hl short).2 j hj, bAll_at, range_take j (by omega)]
  rfl
theorem pX_leads {l : List Pn.Sta} (h : ∀ x ∈ l, Pn.StaOk l.length x) (hl : l.length ≤ 24) (short : Bool) {k : Nat} {x : IX} (hx : (pX l short)[k]? = some x) :
    Pn.noBr x.1.op ∨ ∃ j, j < (pX l short).length ∧ (placeX (pX l short) k : Int) + x.1.imm = placeX (pX l short) j := by
  have hlen : (pX l short).length = (Pn.pL l short).length := by simp [pX]
  simp only [pX, List.getElem?_mapIdx, Option.map_eq_some_iff] at hx
  obtain ⟨y, hy, rfl⟩ := hx
  have hk := (List.getElem?_eq_some_iff.1 hy).1
  rcases (Pn.pL_ins h hl hy).2.2 with ⟨_, hb⟩ | ⟨j, hj, e⟩
  · exact .inl hb
  · refine .inr ⟨j, by omega, ?_⟩
    have e1 := plq_place h hl short (j := k) (by omega)
    have e2 := plq_place h hl short (j := j) (by omega)
    simp only
    rw [e, e1, e2]
    omega
end Go.Proofs.YtbmcofdodfcnnaaGreatDoor
namespace Go.Proofs.YtbmcofdodfcnnaaGreatDoor
open Go.RowKit
theorem at_app (p q : List UInt8) (j : Nat) : (p ++ q).getD (p.length + j) 0 = q.getD j 0 := by
  rw [List.getD, List.getD, List.getElem?_append_right (by omega), Nat.add_sub_cancel_left]
theorem two_by {i : Pn.Ins} {p r : List UInt8} (hs : (Pn.shortP i).2 = 0) :
    (((p ++ (Pn.bI i 2 ++ r)).getD p.length 0).toNat : Int) + 256 * ((p ++ (Pn.bI i 2 ++ r)).getD (p.length + 1) 0).toNat = (Pn.shortP i).1 ∧ (((p ++ (Pn.bI i 2 ++ r)).getD p.length 0).toNat : Int) % 4 ≠ 3 ∧ Pn.expP (Pn.shortP i).1 = (i, 0) := by
  obtain ⟨h1, h2, h3⟩ := half_two (p := p) (r := r) hs
  obtain ⟨e1, e2, e3, e4, _⟩ := Pn.exp_short (i := i) (h := (Pn.shortP i).1) (by rw [← hs])
  rw [h2, h3]
  exact ⟨by omega, by omega, e1⟩
theorem four_by {i : Pn.Ins} {p r : List UInt8} (hr : Pn.right i = true) :
    (((p ++ (Pn.bI i 4 ++ r)).getD p.length 0).toNat : Int) % 4 = 3 ∧ p.length + 4 ≤ (p ++ (Pn.bI i 4 ++ r)).length ∧
      (((p ++ (Pn.bI i 4 ++ r)).getD p.length 0).toNat : Int) + 256 * ((p ++ (Pn.bI i 4 ++ r)).getD (p.length + 1) 0).toNat + 65536 * ((p ++ (Pn.bI i 4 ++ r)).getD (p.length + 2) 0).toNat + 16777216 * ((p ++ (Pn.bI i 4 ++ r)).getD (p.length + 3) 0).toNat = (Pn.enc i).1 ∧
      Pn.dec (Pn.enc i).1 = (i, 0) := by
  obtain ⟨d1, _, d3, d4, d5⟩ := Pn.dec_enc hr
  have hb : Pn.bI i 4 = [UInt8.ofNat ((Pn.enc i).1 % 256).toNat, UInt8.ofNat ((Pn.enc i).1 / 256 % 256).toNat, UInt8.ofNat ((Pn.enc i).1 / 256 / 256 % 256).toNat, UInt8.ofNat ((Pn.enc i).1 / 256 / 256 / 256 % 256).toNat] := rfl
  have a0 := at_app p (Pn.bI i 4 ++ r) 0
  rw [at_app p (Pn.bI i 4 ++ r) 1, at_app p (Pn.bI i 4 ++ r) 2, at_app p (Pn.bI i 4 ++ r) 3, show p.length = p.length + 0 from rfl, a0, hb]
  have g0 : ∀ (a b c d : UInt8), ([a, b, c, d] ++ r).getD 0 0 = a ∧ ([a, b, c, d] ++ r).getD 1 0 = b ∧ ([a, b, c, d] ++ r).getD 2 0 = c ∧ ([a, b, c, d] ++ r).getD 3 0 = d := fun a b c d => ⟨rfl, rfl, rfl, rfl⟩
  obtain ⟨g1, g2, g3, g4⟩ := g0 (UInt8.ofNat ((Pn.enc i).1 % 256).toNat) (UInt8.ofNat ((Pn.enc i).1 / 256 % 256).toNat) (UInt8.ofNat ((Pn.enc i).1 / 256 / 256 % 256).toNat) (UInt8.ofNat ((Pn.enc i).1 / 256 / 256 / 256 % 256).toNat)
  rw [g1, g2, g3, g4, byte_of (by omega) (by omega), byte_of (by omega) (by omega), byte_of (by omega) (by omega), byte_of (by omega) (by omega)]
  refine ⟨by omega, by simp, by omega, d1⟩
end Go.Proofs.YtbmcofdodfcnnaaGreatDoor
namespace Go.Proofs.YtbmcofdodfcnnaaGreatDoor
open Go.RowKit
def byN (L : List UInt8) (k : Nat) : Int := ((L.getD k 0).toNat : Int)
def StepAt (L : List UInt8) (its : List IT) (Q : Nat → Prop) (k : Nat) : Prop :=
  ∃ i : Pn.Ins, ((k + 2 ≤ L.length ∧ byN L k % 4 ≠ 3 ∧ Pn.expP (byN L k + 256 * byN L (k + 1)) = (i, 0) ∧ Q (k + 2)) ∨
      (k + 4 ≤ L.length ∧ byN L k % 4 = 3 ∧ Pn.dec (byN L k + 256 * byN L (k + 1) + 65536 * byN L (k + 2) + 16777216 * byN L (k + 3)) = (i, 0) ∧ Q (k + 4))) ∧
    (Pn.noBr i.op ∨ ∃ t : Nat, (k : Int) + i.imm = t ∧ t < L.length ∧ ∃ y ∈ its, y.1 = t)
structure ShrF (C : ByteArray) : Prop where
  run : runE C.data.toList 0 (itemsL C) = some C.data.toList.length
  len : C.data.toList.length ≤ 4000
  step : ∃ Q : Nat → Prop, Q 0 ∧ ∀ k, Q k → k < C.data.toList.length → StepAt C.data.toList (itemsL C) Q k
theorem place_zero (xs : List IX) : placeX xs 0 = 0 := by simp [placeX]
theorem place_all (xs : List IX) : placeX xs xs.length = (xs.flatMap bX).length := by simp [placeX]
theorem place_succ {xs : List IX} {j : Nat} {x : IX} (hx : xs[j]? = some x) : placeX xs (j + 1) = placeX xs j + (bX x).length := by
  obtain ⟨hj, e⟩ := List.getElem?_eq_some_iff.1 hx
  unfold placeX
  rw [List.take_succ_eq_append_getElem hj, List.flatMap_append, List.length_append, e]
  simp
theorem place_split {xs : List IX} {j : Nat} {x : IX} (hx : xs[j]? = some x) : xs.flatMap bX = (xs.take j).flatMap bX ++ (bX x ++ (xs.drop (j + 1)).flatMap bX) := by
  obtain ⟨hj, e⟩ := List.getElem?_eq_some_iff.1 hx
  have h1 : xs = xs.take j ++ (x :: xs.drop (j + 1)) := by
    rw [← e, ← List.drop_eq_getElem_cons hj, List.take_append_drop]
  conv => lhs; rw [h1]
  simp
theorem place_lt {xs : List IX} (h : ∀ x ∈ xs, XOk x) {j : Nat} (hj : j < xs.length) : placeX xs j + 2 ≤ (xs.flatMap bX).length := by
  have hx : xs[j]? = some xs[j] := List.getElem?_eq_getElem hj
  have ho := h _ (List.getElem_mem hj)
  have hb := bX_len ho
  rw [place_split hx, List.length_append, List.length_append]
  unfold placeX
  rcases ho.2.1 with e | e <;> omega
theorem flat_len {xs : List IX} (h : ∀ x ∈ xs, XOk x) : (xs.flatMap bX).length ≤ 4 * xs.length := by
  induction xs with
  | nil => simp
  | cons x xs ih =>
    have ho := h x List.mem_cons_self
    have hb := bX_len ho
    have := ih fun y hy => h y (List.mem_cons_of_mem _ hy)
    rw [List.flatMap_cons, List.length_append, List.length_cons]
    rcases ho.2.1 with e | e <;> omega
theorem shr_prog {l : List Pn.Sta} (h : ∀ x ∈ l, Pn.StaOk l.length x) (hl : l.length ≤ 24) (short : Bool) {s : ByteArray} (hs : s.data.toList = Pn.progT l) : ∃ C : ByteArray, asmA s short = (C.data.toList, 0, 0) ∧ ShrF C := by
  have hok := pX_ok h hl short
  have hlen : (pX l short).length ≤ 52 := by
    have h1 : (pX l short).length = (Pn.pL l short).length := by simp [pX]
    have h2 := Pn.pL_len l short
    have h3 := Pn.pQ_len l hl
    omega
  have hfl := flat_len hok
  refine ⟨⟨((pX l short).flatMap bX).toArray⟩, ?_, ?_⟩
  · rw [asmA_prog h hl short hs, pX_flat]
  · have hC : (⟨((pX l short).flatMap bX).toArray⟩ : ByteArray).data.toList = (pX l short).flatMap bX := by simp
    have hit := items_X hok hC
    refine ⟨?_, by rw [hC]; omega, ?_⟩
    · rw [hC, hit]
      exact run_X _ (by omega) _ [] hok rfl
    · rw [hC, hit]
      generalize hX : pX l short = xs at *
      refine ⟨fun k => ∃ j, j ≤ xs.length ∧ k = placeX xs j, ⟨0, Nat.zero_le _, (place_zero xs).symm⟩, ?_⟩
      rintro k ⟨j, hj, rfl⟩ hk
      have hj2 : j < xs.length := by
        rcases Nat.lt_or_ge j xs.length with q | q
        · exact q
        · have e : j = xs.length := by omega
          rw [e, place_all] at hk
          omega
      have hx : xs[j]? = some xs[j] := List.getElem?_eq_getElem hj2
      generalize xs[j] = x at hx
      have ho := hok x (List.mem_of_getElem? hx)
      have hb := bX_len ho
      have hsp := place_split hx
      have hsu := place_succ hx
      have hpl : ((xs.take j).flatMap bX).length = placeX xs j := rfl
      refine ⟨x.1, ?_, ?_⟩
      · rcases ho.2.1 with e | e
        · left
          obtain ⟨a1, a2, a3⟩ := two_by (i := x.1) (p := (xs.take j).flatMap bX) (r := (xs.drop (j + 1)).flatMap bX) (ho.2.2 e)
          have eb : Pn.bI x.1 2 = bX x := by unfold bX; rw [e]
          rw [eb, ← hsp, hpl] at a1 a2
          have hp := place_lt hok hj2
          refine ⟨hp, a2, ?_, j + 1, by omega, ?_⟩
          · unfold byN
            rw [a1]
            exact a3
          · rw [hsu, hb, e]; rfl
        · right
          obtain ⟨a1, a2, a3, a4⟩ := four_by (i := x.1) (p := (xs.take j).flatMap bX) (r := (xs.drop (j + 1)).flatMap bX) ho.1
          have eb : Pn.bI x.1 4 = bX x := by unfold bX; rw [e]
          rw [eb, ← hsp, hpl] at a1 a2 a3
          refine ⟨a2, a1, ?_, j + 1, by omega, ?_⟩
          · unfold byN
            rw [a3]
            exact a4
          · rw [hsu, hb, e]; rfl
      · rw [← hX] at hx
        rcases pX_leads h hl short hx with q | ⟨j2, q1, q2⟩
        · exact .inl q
        · rw [hX] at q1 q2
          right
          have hx2 : xs[j2]? = some xs[j2] := List.getElem?_eq_getElem q1
          have hp := place_lt hok q1
          refine ⟨placeX xs j2, q2, by omega, (0 + placeX xs j2, xs[j2].1), ?_, by simp⟩
          refine List.mem_of_getElem? (i := j2) ?_
          rw [itX_at xs 0 j2 hok, hx2]
          rfl
end Go.Proofs.YtbmcofdodfcnnaaGreatDoor
