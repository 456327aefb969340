import Derived.Test.YtbmcofdodfcnnaaGreatDoorGFC
import Derived.Test.YtbmcofdodfcnnaaGreatDoorGP
import Derived.Test.YtbmcofdodfcnnaaGreatDoorShelf
import Derived.Test.YtbmcofdodfcnnaaGreatDoorU3
namespace Pn
def bt (n p : Int) : Int := bitz n p p
theorem bt_01 (n p : Int) : 0 ≤ bt n p ∧ bt n p ≤ 1 := by
  have := bitz_bd n p p
  unfold bt
  have e : (2:Int) ^ (p.toNat - p.toNat + 1) = 2 := by simp
  rw [e] at this
  omega
/-- places are all of 0 to 15 -/
theorem pl_in (l : List UInt8) (c : Int) (j : Nat) (hj : j ≤ 16) : ∀ x ∈ pl l c j, 0 ≤ x ∧ x ≤ 15 := by
  induction j with
  | zero => intro x hx; simp [pl] at hx
  | succ j ih =>
    intro x hx
    simp only [pl, List.mem_append] at hx
    rcases hx with hx | hx
    · exact ih (by omega) x hx
    · split at hx
      · simp at hx; omega
      · simp at hx
theorem orz_lt16 (a b : Int) (a0 : 0 ≤ a) (a1 : a < 65536) (b0 : 0 ≤ b) (b1 : b < 65536) : 0 ≤ orz a b ∧ orz a b < 65536 := orz_bd a b 16 (by decide) a0 a1 b0 b1
/-- a register into a half -/
def wrR (p : List Int) (r : Int) : Nat → Int
  | 0 => 0
  | j + 1 => orz (wrR p r j) (bt r (p.length - 1 - j) * 2 ^ (p.getD j 0).toNat)
theorem bit16 (n q x : Int) (h : 0 ≤ x ∧ x ≤ 15) : 0 ≤ bt n q * 2 ^ x.toNat ∧ bt n q * 2 ^ x.toNat < 65536 := by
  have hb := bt_01 n q
  have hp : (2:Int) ^ x.toNat ≤ 2 ^ 15 := pow_mono (by omega)
  have hp0 := pow_pos x.toNat
  have e : (2:Int) ^ 15 = 32768 := by decide
  rcases (show bt n q = 0 ∨ bt n q = 1 by omega) with h | h <;> rw [h] <;> omega
theorem wrR_bd (p : List Int) (r : Int) (hp : ∀ x ∈ p, 0 ≤ x ∧ x ≤ 15) (j : Nat) (hj : j ≤ p.length) : 0 ≤ wrR p r j ∧ wrR p r j < 65536 := by
  induction j with
  | zero => simp [wrR]
  | succ j ih =>
    have h := ih (by omega)
    have hx : 0 ≤ p.getD j 0 ∧ p.getD j 0 ≤ 15 := hp _ (by rw [List.getD_eq_getElem?_getD, List.getElem?_eq_getElem (by omega)]; exact List.getElem_mem _)
    have hb := bit16 r (p.length - 1 - j) (p.getD j 0) hx
    exact orz_lt16 _ _ h.1 h.2 hb.1 hb.2
end Pn
namespace Go.Proofs.YtbmcofdodfcnnaaGreatDoor
open Go.RowKit
/-- numbers in a slice, in blocks from base on -/
structure IA (ao : Option Addr) (l : List Int) (base : Nat) (w : World) : Prop where
  at' : ∀ j, j < l.length → ∃ g, ao = some ⟨g, 0, none⟩ ∧ base ≤ g ∧ g < w.heap.size ∧ w.cell? ⟨g, j, none⟩ = some (.int .i64 (l.getD j 0))
theorem IA.next {ao : Option Addr} {l : List Int} {base : Nat} {w w' : World} (h : IA ao l base w) (hB : Below w.heap.size w w') : IA ao l base w' :=
  ⟨fun j hj => by obtain ⟨g, h1, h2, h3, h4⟩ := h.at' j hj; exact ⟨g, h1, h2, by have := hB.size; omega, (hB.cell (p := ⟨g, j, none⟩) h3).trans h4⟩⟩
theorem own_ints {w : World} {base : Nat} {v : Value} {l : List Int} (h : w.ownsRow base 3 1 v l.length (ints l)) : ∃ ao cap, v = .slice ao l.length cap ∧ IA ao l base w := by
  have h' := h
  obtain ⟨h1, ⟨rfl, h0⟩ | ⟨g, cap, cur, rfl, hg, hc, h3⟩⟩ := h
  · exact ⟨none, 0, by rw [h0], ⟨fun j hj => by omega⟩⟩
  · refine ⟨_, cap, rfl, ⟨fun j hj => ⟨g, rfl, hg, (h'.lt g rfl).2, ?_⟩⟩⟩
    have := h'.cells rfl j (.int .i64 (l.getD j 0)) (by simp [ints, List.getElem?_eq_getElem hj])
    have hadd : (⟨g, 0, none⟩ : Addr).add j = ⟨g, j, none⟩ := by unfold Addr.add; split <;> simp_all
    rw [hadd] at this
    exact this
set_option maxRecDepth 20000 in
set_option maxHeartbeats 1000000 in
theorem writeRegister_is (f : Pn.Fm) (c r : Int) (w : World) (hA : ∀ x ∈ f.half, x.toNat < 128) (hl : f.half.length ≤ 16) :
    Calls Tryz.prog 122 #[.agg (frowOf f).toArray, .int .i32 c, .int .i64 r] w fun e w' => e = .returned (.int .i64 (Pn.wrR (Pn.places f.half c) r (Pn.places f.half c).length)) ∧ Below w.heap.size w w' := by
  have HPl := hid (placesOf_is f c (w.alloc (.cells (frowOf f).toArray 114)) hA hl)
  have HIN := hid (Pn.pl_in f.half c f.half.length hl)
  have hpl := Pn.pl_len f.half c f.half.length
  unfold frowOf at *
  go_enter Tryz.func122, Tryz.ntmps122
  go_wp2_with fail
  refine HPl.out.mono ?_
  rintro e w1 ⟨v, rfl, hown, hB1⟩
  obtain ⟨ao, cap, rfl, hIA⟩ := own_ints hown
  have HB1 : Hid (Below w.heap.size w w1) := hid (((Below.refl _ _).alloc (Nat.le_refl _) _).trans (hB1.mono (by simp)))
  have HIA := hid hIA
  clear hown hB1 HPl
  change Hid (∀ x ∈ Pn.places f.half c, 0 ≤ x ∧ x ≤ 15) at HIN
  change (Pn.places f.half c).length ≤ f.half.length at hpl
  generalize hP : Pn.places f.half c = P at *
  have HP := hid hP
  clear hP
  have hpl2 : P.length ≤ 16 := by omega
  go_wp2_with fail
  go_loopw [7, 16] (fun a i wr => ∃ j : Nat, j ≤ P.length ∧ i = .int .i64 j ∧ a = .int .i64 (Pn.wrR P r j) ∧ Below w1.heap.size w1 wr) (fun _ i _ => P.length - (intOf i).toNat)
  case atStart => exact ⟨0, Nat.zero_le _, rfl, rfl, Below.refl _ _⟩
  case round =>
    obtain ⟨j, hj, rfl, rfl, hB⟩ := hrel
    have HB := hid hB
    by_cases hlt : j < P.length
    · obtain ⟨g, rfl, hg1, hg2, hgc⟩ := (HIA.out.next hB).at' j hlt
      have hx := HIN.out (P.getD j 0) (by rw [List.getD_eq_getElem?_getD, List.getElem?_eq_getElem hlt]; exact List.getElem_mem _)
      have hbd := Pn.wrR_bd P r HIN.out j (by omega)
      have hb16 := Pn.bit16 r (P.length - 1 - j) (P.getD j 0) hx
      have HW : Hid (Pn.wrR P r (j + 1) = Pn.orz (Pn.wrR P r j) (Pn.bt r (P.length - 1 - j) * 2 ^ (P.getD j 0).toNat)) := hid rfl
      have hlt2 : (j : Int) < P.length := by omega
      clear hB
      generalize P.getD j 0 = X at *
      generalize Pn.wrR P r j = Y at *
      go_wp2_with (go_at_call 112; refine (ibits_is r ((P.length : Int) - 1 - j) 1 _ (by omega) (by omega) (by decide) (by decide)).mono ?_; rintro e w' ⟨rfl, nk, rfl⟩)
      refine ⟨⟨j + 1, by omega, by go_num, ?_, below_drewN HB.out _⟩, by simp [intOf]; omega⟩
      have e : wrap64 (Pn.bitz r ((P.length : Int) - 1 - j) ((P.length : Int) - 1 - j) * 2 ^ X.toNat) = Pn.bt r (P.length - 1 - j) * 2 ^ X.toNat := w64 _ (by unfold Pn.bt at hb16; omega)
      rw [HW.out, e]
      rfl
    · have hjn : j = P.length := by omega
      subst hjn
      go_wp2_with fail
      go_ret
      exact ⟨by rw [HP.out]; rfl, HB1.out.trans (HB.out.mono HB1.out.size)⟩
end Go.Proofs.YtbmcofdodfcnnaaGreatDoor

namespace Pn
/-- a register out of a half -/
def rgR (p : List Int) (n : Int) : Nat → Int
  | 0 => 0
  | j + 1 => orz (rgR p n j * 2) (bt n (p.getD j 0))
theorem rgR_bd (p : List Int) (n : Int) (j : Nat) (hj : j ≤ 16) : 0 ≤ rgR p n j ∧ rgR p n j < 2 ^ j := by
  induction j with
  | zero => simp [rgR]
  | succ j ih =>
    have h := ih (by omega)
    have hb := bt_01 n (p.getD j 0)
    have hp := pow_pos j
    have e := pow_succ' j
    have hq : (1:Int) ≤ 2 ^ j := by omega
    exact orz_bd _ _ (j + 1) (by omega) (by omega) (by omega) (by omega) (by omega)
/-- which bit of Imm the kth letter i is -/
def imB (order : List UInt8) (k : Nat) : Int := Go.Lib.indexByte [48, 49, 50, 51, 52, 53, 54, 55, 56, 57, 97, 98] (order.getD k 0)
def regP (half : List UInt8) (from' n : Int) : Int :=
  if from' ≤ 31 then from' else rgR (places half from') n (places half from').length + (if (places half from').length = 3 then 8 else 0)
end Pn
namespace Go.Proofs.YtbmcofdodfcnnaaGreatDoor
open Go.RowKit
set_option maxRecDepth 20000 in
set_option maxHeartbeats 1000000 in
theorem register_is (f : Pn.Fm) (c n : Int) (w : World) (hA : ∀ x ∈ f.half, x.toNat < 128) (hl : f.half.length ≤ 16) (c0 : 0 ≤ c) (c1 : c ≤ 200) :
    Calls Tryz.prog 126 #[.agg (frowOf f).toArray, .int .i64 c, .int .i64 n] w fun e w' => e = .returned (.int .i64 (Pn.regP f.half c n)) ∧ Below w.heap.size w w' := by
  by_cases hc : c ≤ 31
  · have HR : Hid (Pn.regP f.half c n = c) := hid (by unfold Pn.regP; rw [if_pos hc])
    unfold frowOf
    go_enter Tryz.func126, Tryz.ntmps126
    go_wp2_with fail
    go_ret
    exact ⟨by rw [HR.out]; rfl, (Below.refl _ _).alloc (Nat.le_refl _) _⟩
  · have HPl := hid (placesOf_is f c (w.alloc (.cells (frowOf f).toArray 114)) hA hl)
    have HIN := hid (Pn.pl_in f.half c f.half.length hl)
    have hpl := Pn.pl_len f.half c f.half.length
    have HR : Hid (Pn.regP f.half c n = Pn.rgR (Pn.places f.half c) n (Pn.places f.half c).length + (if (Pn.places f.half c).length = 3 then 8 else 0)) := hid (by unfold Pn.regP; rw [if_neg hc])
    have hw32 : IntKind.i32.wrap c = c := by rw [IntKind.wrap_i32]; omega
    unfold frowOf at *
    go_enter Tryz.func126, Tryz.ntmps126
    go_wp2_with fail
    refine HPl.out.mono ?_
    rintro e w1 ⟨v, rfl, hown, hB1⟩
    obtain ⟨ao, cap, rfl, hIA⟩ := own_ints hown
    have HB1 : Hid (Below w.heap.size w w1) := hid (((Below.refl _ _).alloc (Nat.le_refl _) _).trans (hB1.mono (by simp)))
    have HIA := hid hIA
    clear hown hB1 HPl hIA
    change Hid (∀ x ∈ Pn.places f.half c, 0 ≤ x ∧ x ≤ 15) at HIN
    change (Pn.places f.half c).length ≤ f.half.length at hpl
    generalize Pn.places f.half c = P at *
    have hpl2 : P.length ≤ 16 := by omega
    go_wp2_with fail
    go_loopw [8, 20] (fun a i wr => ∃ j : Nat, j ≤ P.length ∧ i = .int .i64 j ∧ a = .int .i64 (Pn.rgR P n j) ∧ Below w1.heap.size w1 wr) (fun _ i _ => P.length - (intOf i).toNat)
    case atStart => exact ⟨0, Nat.zero_le _, rfl, rfl, Below.refl _ _⟩
    case round =>
      obtain ⟨j, hj, rfl, rfl, hB⟩ := hrel
      have HB := hid hB
      have hbd := Pn.rgR_bd P n j (by omega)
      have hp16 : (2:Int) ^ j ≤ 65536 := by
        have := Pn.pow_mono (show j ≤ 16 by omega)
        have e : (2:Int) ^ 16 = 65536 := by decide
        omega
      by_cases hlt : j < P.length
      · obtain ⟨g, rfl, hg1, hg2, hgc⟩ := (HIA.out.next hB).at' j hlt
        have hx := HIN.out (P.getD j 0) (by rw [List.getD_eq_getElem?_getD, List.getElem?_eq_getElem hlt]; exact List.getElem_mem _)
        have HW : Hid (Pn.rgR P n (j + 1) = Pn.orz (Pn.rgR P n j * 2) (Pn.bt n (P.getD j 0))) := hid rfl
        have hlt2 : (j : Int) < P.length := by omega
        clear hB hg1
        generalize P.getD j 0 = X at *
        generalize Pn.rgR P n j = Y at *
        have hY : 0 ≤ Y ∧ Y < 65536 := by omega
        clear hbd hp16
        go_wp2_with (go_at_call 112; refine (ibits_is n X 1 _ (by omega) (by omega) (by decide) (by decide)).mono ?_; rintro e w' ⟨rfl, nk, rfl⟩)
        exact ⟨⟨j + 1, by omega, by go_num, by rw [HW.out]; rfl, below_drewN HB.out _⟩, by simp [intOf]; omega⟩
      · have hjn : j = P.length := by omega
        subst hjn
        by_cases h3 : P.length = 3
        · go_wp2_with fail
          go_ret
          have hb3 := Pn.rgR_bd P n 3 (by decide)
          exact ⟨retI (by rw [HR.out, if_pos h3, h3]; exact w64 _ (by simp at hb3; omega)), HB1.out.trans (HB.out.mono HB1.out.size)⟩
        · have h3' : ¬ (P.length : Int) = 3 := by omega
          go_wp2_with fail
          go_ret
          exact ⟨by rw [HR.out, if_neg h3, Int.add_zero]; rfl, HB1.out.trans (HB.out.mono HB1.out.size)⟩
theorem immBit_is (f : Pn.Fm) (k : Nat) (w : World) (hk : k < f.order.length) :
    Calls Tryz.prog 124 #[.agg (frowOf f).toArray, .int .i64 k] w fun e w' => e = .returned (.int .i64 (Pn.imB f.order k)) ∧ Below w.heap.size w w' := by
  obtain ⟨half, order, signed, op, rd, rs1, rs2, hold⟩ := f
  simp only at hk ⊢
  have HS : Hid (∀ (h : k < (⟨order.toArray⟩ : ByteArray).size), (⟨order.toArray⟩ : ByteArray)[k]'h = order.getD k 0) := hid (fun h => by
    have : (⟨order.toArray⟩ : ByteArray)[k]'h = order[k] := rfl
    rw [this]; simp [hk])
  have hsz : (⟨order.toArray⟩ : ByteArray).size = order.length := by simp [ByteArray.size]
  have hkk : k < (⟨order.toArray⟩ : ByteArray).size := by omega
  have hki : (k : Int) < order.length := by omega
  have HB : Hid (Pn.imB order k = Lib.indexByte [48, 49, 50, 51, 52, 53, 54, 55, 56, 57, 97, 98] (order.getD k 0)) := hid rfl
  unfold frowOf
  simp only
  generalize (⟨order.toArray⟩ : ByteArray) = O at *
  go_enter Tryz.func124, Tryz.ntmps124
  go_wp2_with (go_at_call 181; refine (Tryz.strings_IndexByte _ _ _).mono ?_; rintro e w' ⟨rfl, rfl⟩)
  go_ret
  exact ⟨retI (by rw [HB.out, ← HS.out hkk]), (Below.refl _ _).alloc (Nat.le_refl _) _⟩
end Go.Proofs.YtbmcofdodfcnnaaGreatDoor
