import Derived.Test.YtbmcofdodfcnnaaGreatDoorGFA
import Derived.Test.YtbmcofdodfcnnaaGreatDoorGU1
import Derived.Lib.OthersKept
namespace Pn
/-- the places of a letter in a half, of the first bytes of it -/
def pl (l : List UInt8) (c : Int) : Nat → List Int
  | 0 => []
  | j + 1 => pl l c j ++ (if ((l.getD j 0).toNat : Int) = c then [15 - (j : Int)] else [])
theorem pl_len (l : List UInt8) (c : Int) (j : Nat) : (pl l c j).length ≤ j := by
  induction j with
  | zero => simp [pl]
  | succ j ih => simp only [pl]; split <;> simp <;> omega
def places (l : List UInt8) (c : Int) : List Int := pl l c l.length
end Pn
namespace Go.Proofs.YtbmcofdodfcnnaaGreatDoor
open Go.RowKit
theorem hid {p : Prop} (h : p) : Hid p := h
theorem Tryz.infoInt : (Tryz.prog.info? 3).map (fun i => (i.zero, i.size, i.bytes)) = some (some (.int .i64 0), 1, 8) := by kernel_rfl
def ints (l : List Int) : List Value := l.map (.int .i64)
theorem itersz (w : World) (k : Nat) (s : ByteArray) (p : Nat) {B : Nat} {w0 : World} (h : Below B w0 w) (hk : B ≤ k) : Below B w0 (w.iterAt k s p) :=
  ⟨h.os, h.tape, h.output, by rw [Lib.iterAt_size]; exact h.size, fun b hb => (Lib.iterAt_other w k b s p (by omega)).trans (h.block b hb)⟩
theorem own_iter {w : World} {base : Nat} {e : TypeId} {v : Value} {n : Nat} {xs : List Value} (h : w.ownsRow base e 1 v n xs) (k : Nat) (s : ByteArray) (p : Nat) (hk : k < base) : (w.iterAt k s p).ownsRow base e 1 v n xs :=
  ownsRow_of_block h (fun g hg => Lib.iterAt_other w k g s p (by have := (h.lt g hg).1; omega))
set_option maxRecDepth 20000 in
set_option maxHeartbeats 1000000 in
theorem placesOf_is (f : Pn.Fm) (c : Int) (w : World) (hA : ∀ x ∈ f.half, x.toNat < 128) (hl : f.half.length ≤ 16) :
    Calls Tryz.prog 123 #[.agg (frowOf f).toArray, .int .i32 c] w fun e w' => ∃ v, e = .returned v ∧ w'.ownsRow (w.heap.size + 2) 3 1 v (Pn.places f.half c).length (ints (Pn.places f.half c)) ∧ Below w.heap.size w w' := by
  obtain ⟨i0, hi, hz0, hz1, hz2⟩ := info_parts Tryz.infoInt
  obtain ⟨half, order, signed, op, rd, rs1, rs2, hold⟩ := f
  simp only at hA hl ⊢
  generalize hS : (⟨half.toArray⟩ : ByteArray) = S
  have HS := hid hS
  have hSz : S.size = half.length := by rw [← hS]; simp [ByteArray.size]
  have HD : Hid (S.data.toList = half) := (show _ = _ from by rw [← hS])
  unfold frowOf
  simp only [hS]
  clear hS
  go_enter Tryz.func123, Tryz.ntmps123
  go_wp2_with fail
  have e1 : (w.alloc (.cells #[.string S, .string ⟨order.toArray⟩, .bool signed, .int .i64 op, .int .i64 rd, .int .i64 rs1, .int .i64 rs2, .func (.func (holdF hold)) #[] #[]] 114)).heap.size = w.heap.size + 1 := by simp
  go_loopw [5] (fun v wr => ∃ j : Nat, j ≤ S.size ∧ wr.heap[w.heap.size + 1]? = some (.stringIter S j) ∧ wr.ownsRow (w.heap.size + 2) 3 1 v (Pn.pl half c j).length (ints (Pn.pl half c j)) ∧ Below w.heap.size w wr ∧ w.heap.size + 2 ≤ wr.heap.size) (fun _ wr => S.size - wr.iterPos (w.heap.size + 1))
  case atStart =>
    refine ⟨0, Nat.zero_le _, ?_, World.ownsRow_nil _ _ _ _, ((Below.refl _ _).alloc (Nat.le_refl _) _).alloc (by rw [World.size_alloc]; omega) _, by show _ ≤ (World.alloc _ _).heap.size; rw [World.size_alloc, World.size_alloc]; omega⟩
    have := heap_alloc_last (w.alloc (.cells #[.string S, .string ⟨order.toArray⟩, .bool signed, .int .i64 op, .int .i64 rd, .int .i64 rs1, .int .i64 rs2, .func (.func (holdF hold)) #[] #[]] 114)) (.stringIter S 0)
    rw [e1] at this
    exact this
  case round =>
    obtain ⟨j, hj, hit, hown, hB, hsz⟩ := hrel
    clear e1
    by_cases hlt : j < S.size
    · have hjh : j < half.length := by omega
      have hSj : (S[j]'hlt) = half.getD j 0 := by
        have : S[j]'hlt = S.data.toList[j]'(by simpa using hlt) := rfl
        rw [this]
        simp [HD.out, hjh]
      have hasc : (S[j]'hlt).toNat < 128 := by
        rw [hSj, List.getD_eq_getElem?_getD, List.getElem?_eq_getElem hjh]
        exact hA _ (List.getElem_mem hjh)
      have hnx : ∀ ty, (Instr.next (.pointer (some ⟨w.heap.size + 1, 0, none⟩)) true ty).run Tryz.prog wr = .ok (.tuple #[.bool true, .int .i64 j, .int .i32 (S[j]'hlt).toNat]) (wr.iterAt (w.heap.size + 1) S (j + 1)) := fun ty =>
        Lib.run_next_ascii_at wr (w.heap.size + 1) S j ty hit hlt hasc
      have HO := hid (own_iter hown (w.heap.size + 1) S (j + 1) (by omega))
      have HB := hid (itersz wr (w.heap.size + 1) S (j + 1) hB (by omega))
      have HIT := hid (Lib.iterAt_heap wr (w.heap.size + 1) S j (j + 1) hit)
      have HIT0 := hid hit
      have hsz' : (wr.iterAt (w.heap.size + 1) S (j + 1)).heap.size = wr.heap.size := Lib.iterAt_size _ _ _ _
      have HPL : Hid (Pn.pl half c (j + 1) = Pn.pl half c j ++ (if ((S[j]'hlt).toNat : Int) = c then [15 - (j : Int)] else [])) := (show _ = _ from by rw [hSj]; rfl)
      have hpl := Pn.pl_len half c j
      have hsz2 : w.heap.size + 2 ≤ (wr.iterAt (w.heap.size + 1) S (j + 1)).heap.size := by omega
      have HMS : Hid (wr.iterPos (w.heap.size + 1) = j) := (show _ = _ from by simp [World.iterPos, hit])
      clear hit hown hB hsz hsz'
      generalize hr : ((S[j]'hlt).toNat : Int) = r at *
      clear hr hSj hasc
      generalize wr.iterAt (w.heap.size + 1) S (j + 1) = W at *
      by_cases hc : r = c
      · have hjj : (0:Int) ≤ 15 - j := by omega
        go_wp2_with (first
          | (at_builtin; refine wpList_append_own _ rfl _ _ 49 rfl (w.heap.size + 2) 3 i0 (.int .i64 0) 1 8 Tryz.underlying49 hi hz0 hz1 hz2 rfl (by decide) _ _ _ rfl (HO.out.alloc _) ⟨W.heap.size, 0, none⟩ 1 1 [.int .i64 (15 - (j : Int))] rfl rfl ?c1 ?c2 ?c3 ?c4 ?c5 ?_)
          | go_in)
        case c1 =>
          intro j' u hj'
          match j', hj' with
          | 0, hj' => simp at hj'; subst hj'; simp [Addr.add]
        case c2 => intro u hu; simp at hu; subst hu; rfl
        case c3 => unfold maxLen; omega
        case c4 => omega
        case c5 => rw [World.size_alloc]; omega
        · intro v' w1 hown' hgrow _
          have hB1 : Below w.heap.size w w1 := (HB.out.alloc (by omega) _).grown hgrow (by rw [World.size_alloc]; omega) (fun g hg => by have := (HO.out.lt g hg).1; omega)
          have hit1 : w1.heap[w.heap.size + 1]? = some (.stringIter S (j + 1)) := by
            rw [hgrow.block _ (by rw [World.size_alloc]; omega) (fun e => by have := (HO.out.lt _ e.symm).1; omega)]
            exact (Below.block ((Below.refl W.heap.size W).alloc (Nat.le_refl _) _) _ (by omega)).trans HIT.out
          have hs1 : w.heap.size + 2 ≤ w1.heap.size := by have := hgrow.size; rw [World.size_alloc] at this; omega
          have HO1 := hid hown'
          clear hown' hgrow
          go_wp2_with fail
          go_roundw
          case rel =>
            refine ⟨j + 1, by omega, hit1, ?_, hB1, hs1⟩
            rw [HPL.out, if_pos hc]
            simpa [ints] using HO1.out
          case measure =>
            simp [World.iterPos, hit1, HIT0.out]
            omega
      · go_wp2_with fail
        go_roundw
        case rel => exact ⟨j + 1, by omega, HIT.out, by rw [HPL.out, if_neg hc, List.append_nil]; exact HO.out, HB.out, hsz2⟩
        case measure =>
          simp [World.iterPos, HIT.out, HIT0.out]
          omega
    · have hje : j = S.size := by omega
      have hnx : ∀ ty, (Instr.next (.pointer (some ⟨w.heap.size + 1, 0, none⟩)) true ty).run Tryz.prog wr = .ok (.tuple #[.bool false]) wr := fun ty =>
        Lib.run_next_end_at wr (w.heap.size + 1) S j ty hit hlt
      have HO := hid hown
      go_wp2_with fail
      go_ret
      refine ⟨_, rfl, ?_, hB⟩
      unfold Pn.places
      rw [← hSz, ← hje]
      exact HO.out
end Go.Proofs.YtbmcofdodfcnnaaGreatDoor

namespace Pn
/-- does the half n have the digit that stands at place j? -/
def fitJ (l : List UInt8) (n : Int) (j : Nat) : Bool :=
  if (l.getD j 0).toNat = 48 ∨ (l.getD j 0).toNat = 49 then decide (bitz n (15 - j) (15 - j) = ((l.getD j 0).toNat : Int) - 48) else true
def fitB (l : List UInt8) (n : Int) : Bool := (List.range l.length).all (fitJ l n)
theorem fitB_no {l : List UInt8} {n : Int} {j : Nat} (hj : j < l.length) (h : fitJ l n j = false) : fitB l n = false := by
  unfold fitB
  rw [List.all_eq_false]
  exact ⟨j, by simpa using hj, by simp [h]⟩
theorem fitB_yes {l : List UInt8} {n : Int} (h : ∀ j, j < l.length → fitJ l n j = true) : fitB l n = true := by
  unfold fitB
  rw [List.all_eq_true]
  intro j hj
  exact h j (by simpa using hj)
end Pn
namespace Go.Proofs.YtbmcofdodfcnnaaGreatDoor
open Go.RowKit
theorem drewN_heap' (w : World) : ∀ k, (w.drewN k).heap = w.heap
  | 0 => rfl
  | k + 1 => by show (World.drewN _ k).heap = _; exact drewN_heap' _ k
def isBitB (r : Int) : Bool := r == 48 || r == 49
theorem isBit_is (r : Int) (w : World) : Calls Tryz.prog 182 #[.int .i32 r] w fun e w' => e = .returned (.bool (isBitB r)) ∧ w' = w := by
  by_cases h : r = 48
  · subst h
    go_enter Tryz.func182, Tryz.ntmps182
    go_wp2
    go_ret
    exact ⟨rfl, rfl⟩
  · go_enter Tryz.func182, Tryz.ntmps182
    go_wp2
    go_ret
    exact ⟨by simp [isBitB], rfl⟩
set_option maxRecDepth 20000 in
set_option maxHeartbeats 1000000 in
theorem ffits_is (f : Pn.Fm) (n : Int) (w : World) (hA : ∀ x ∈ f.half, x.toNat < 128) (hl : f.half.length ≤ 16) :
    Calls Tryz.prog 125 #[.agg (frowOf f).toArray, .int .i64 n] w fun e w' => e = .returned (.bool (Pn.fitB f.half n)) ∧ Below w.heap.size w w' := by
  obtain ⟨half, order, signed, op, rd, rs1, rs2, hold⟩ := f
  simp only at hA hl ⊢
  generalize hS : (⟨half.toArray⟩ : ByteArray) = S
  have hSz : S.size = half.length := by rw [← hS]; simp [ByteArray.size]
  have HD : Hid (S.data.toList = half) := (show _ = _ from by rw [← hS])
  unfold frowOf
  simp only [hS]
  clear hS
  go_enter Tryz.func125, Tryz.ntmps125
  go_wp2_with fail
  have e1 : (w.alloc (.cells #[.string S, .string ⟨order.toArray⟩, .bool signed, .int .i64 op, .int .i64 rd, .int .i64 rs1, .int .i64 rs2, .func (.func (holdF hold)) #[] #[]] 114)).heap.size = w.heap.size + 1 := by simp
  go_loopw [] (fun wr => ∃ j : Nat, j ≤ S.size ∧ wr.heap[w.heap.size + 1]? = some (.stringIter S j) ∧ (∀ i, i < j → Pn.fitJ half n i = true) ∧ Below w.heap.size w wr) (fun wr => S.size - wr.iterPos (w.heap.size + 1))
  case atStart =>
    refine ⟨0, Nat.zero_le _, ?_, fun i h => by omega, ((Below.refl _ _).alloc (Nat.le_refl _) _).alloc (by rw [World.size_alloc]; omega) _⟩
    have := heap_alloc_last (w.alloc (.cells #[.string S, .string ⟨order.toArray⟩, .bool signed, .int .i64 op, .int .i64 rd, .int .i64 rs1, .int .i64 rs2, .func (.func (holdF hold)) #[] #[]] 114)) (.stringIter S 0)
    rw [e1] at this
    exact this
  case round =>
    obtain ⟨j, hj, hit, hall, hB⟩ := hrel
    clear e1
    have HALL := hid hall
    clear hall
    by_cases hlt : j < S.size
    · have hjh : j < half.length := by omega
      have hSj : (S[j]'hlt) = half.getD j 0 := by
        have : S[j]'hlt = S.data.toList[j]'(by simpa using hlt) := rfl
        rw [this]
        simp [HD.out, hjh]
      have hasc : (S[j]'hlt).toNat < 128 := by
        rw [hSj, List.getD_eq_getElem?_getD, List.getElem?_eq_getElem hjh]
        exact hA _ (List.getElem_mem hjh)
      have hnx : ∀ ty, (Instr.next (.pointer (some ⟨w.heap.size + 1, 0, none⟩)) true ty).run Tryz.prog wr = .ok (.tuple #[.bool true, .int .i64 j, .int .i32 (S[j]'hlt).toNat]) (wr.iterAt (w.heap.size + 1) S (j + 1)) := fun ty =>
        Lib.run_next_ascii_at wr (w.heap.size + 1) S j ty hit hlt hasc
      have HB := hid (itersz wr (w.heap.size + 1) S (j + 1) hB (by omega))
      have HIT := hid (Lib.iterAt_heap wr (w.heap.size + 1) S j (j + 1) hit)
      have HIT0 := hid hit
      have HSJ := hid hSj
      have hasz : (w.heap.size + 1) < (wr.iterAt (w.heap.size + 1) S (j + 1)).heap.size := (Array.getElem?_eq_some_iff.1 HIT.out).1
      clear hit hB
      generalize hr : (S[j]'hlt).toNat = r at *
      have HR := hid hr
      clear hr hSj
      generalize wr.iterAt (w.heap.size + 1) S (j + 1) = W at *
      by_cases hc : isBitB (r : Int) = true
      · have hjj : (0:Int) ≤ 15 - j := by omega
        have hr2 : (r : Int) = 48 ∨ (r : Int) = 49 := by simpa [isBitB] using hc
        have hr0 : (48 : Int) ≤ r := by omega
        go_wp2_with (first
          | (go_at_call 182; refine (isBit_is _ _).mono ?_; rintro e w' ⟨rfl, rfl⟩)
          | (go_at_call 112; refine (ibits_is n (15 - (j : Int)) 1 _ (by omega) (by omega) (by decide) (by decide)).mono ?_; rintro e w' ⟨rfl, nk, rfl⟩))
        · have hx : (Pn.bitz n (15 - (j : Int)) (15 - (j : Int)) != (r : Int) - 48) = true := by assumption
          have HF : Hid (Pn.fitB half n = false) := hid (Pn.fitB_no hjh (by
            unfold Pn.fitJ
            rw [← HSJ.out, HR.out, if_pos (by omega)]
            simpa using hx))
          go_ret
          exact ⟨by rw [HF.out]; rfl, below_drewN HB.out _⟩
        · have hx : (Pn.bitz n (15 - (j : Int)) (15 - (j : Int)) != (r : Int) - 48) = false := by assumption
          have hh : (w'.drewN nk).heap = w'.heap := drewN_heap' w' nk
          refine ⟨⟨j + 1, by omega, by rw [hh]; exact HIT.out, fun i hi => ?_, below_drewN HB.out _⟩, ?_⟩
          · by_cases hij : i < j
            · exact HALL.out i hij
            · obtain rfl : i = j := by omega
              unfold Pn.fitJ
              rw [← HSJ.out, HR.out, if_pos (by omega)]
              simpa using hx
          · simp [World.iterPos, HIT.out, HIT0.out]
            omega
      · have hc' : isBitB (r : Int) = false := by simpa using hc
        go_wp2_with (go_at_call 182; refine (isBit_is _ _).mono ?_; rintro e w' ⟨rfl, rfl⟩)
        go_roundw
        case rel =>
          refine ⟨j + 1, by omega, HIT.out, fun i hi => ?_, HB.out⟩
          by_cases hij : i < j
          · exact HALL.out i hij
          · obtain rfl : i = j := by omega
            have : ¬ (r = 48 ∨ r = 49) := by intro h; rcases h with rfl | rfl <;> simp [isBitB] at hc
            unfold Pn.fitJ
            rw [← HSJ.out, HR.out, if_neg this]
        case measure =>
          simp [World.iterPos, HIT.out, HIT0.out]
          omega
    · have hje : j = S.size := by omega
      have hnx : ∀ ty, (Instr.next (.pointer (some ⟨w.heap.size + 1, 0, none⟩)) true ty).run Tryz.prog wr = .ok (.tuple #[.bool false]) wr := fun ty =>
        Lib.run_next_end_at wr (w.heap.size + 1) S j ty hit hlt
      have HF : Hid (Pn.fitB half n = true) := hid (Pn.fitB_yes fun i hi => HALL.out i (by omega))
      go_wp2_with fail
      go_ret
      exact ⟨by rw [HF.out]; rfl, hB⟩
end Go.Proofs.YtbmcofdodfcnnaaGreatDoor
