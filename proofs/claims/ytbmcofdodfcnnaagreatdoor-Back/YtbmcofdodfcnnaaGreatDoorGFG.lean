import Derived.Test.YtbmcofdodfcnnaaGreatDoorGFE
import Derived.Test.YtbmcofdodfcnnaaGreatDoorVE
namespace Pn
/-- Imm out of a half -/
def imTerm (f : Fm) (p : List Int) (n : Int) (j : Nat) : Int :=
  if j = 0 ∧ f.signed = true then -(bt n (p.getD j 0) * 2 ^ (imB f.order j).toNat) else bt n (p.getD j 0) * 2 ^ (imB f.order j).toNat
def imR (f : Fm) (p : List Int) (n : Int) : Nat → Int
  | 0 => 0
  | j + 1 => orz (imR f p n j) (imTerm f p n j)
def immP (f : Fm) (n : Int) : Int := imR f (places f.half 105) n (places f.half 105).length
/-- the table is well made -/
structure Fok (f : Fm) : Prop where
  asc : ∀ x ∈ f.half, x.toNat < 128
  len : f.half.length ≤ 16
  ord : (places f.half 105).length = f.order.length
  bit : ∀ k, k < f.order.length → 0 ≤ imB f.order k ∧ imB f.order k ≤ 11
theorem bit11 (n q x : Int) (h : 0 ≤ x ∧ x ≤ 11) : 0 ≤ bt n q * 2 ^ x.toNat ∧ bt n q * 2 ^ x.toNat < 65536 := bit16 n q x ⟨h.1, by omega⟩
end Pn
namespace Go.Proofs.YtbmcofdodfcnnaaGreatDoor
open Go.RowKit
set_option maxRecDepth 20000 in
set_option maxHeartbeats 1000000 in
theorem imm_is (f : Pn.Fm) (n : Int) (w : World) (hf : Pn.Fok f) :
    Calls Tryz.prog 127 #[.agg (frowOf f).toArray, .int .i64 n] w fun e w' => e = .returned (.int .i64 (Pn.immP f n)) ∧ Below w.heap.size w w' := by
  have hA := hf.asc
  have hl := hf.len
  have HPl := hid (placesOf_is f 105 (w.alloc (.cells (frowOf f).toArray 114)) hA hl)
  have HIN := hid (Pn.pl_in f.half 105 f.half.length hl)
  have hpl := Pn.pl_len f.half 105 f.half.length
  have HFR := hid (CellsAt.new w (frowOf f) 114)
  have HR : Hid (Pn.immP f n = Pn.imR f (Pn.places f.half 105) n (Pn.places f.half 105).length) := hid rfl
  have hord := hf.ord
  have HBI := hid hf.bit
  have HIMB := hid (fun k w' hk => immBit_is f k w' hk)
  unfold frowOf at *
  go_enter Tryz.func127, Tryz.ntmps127
  go_wp2_with fail
  refine HPl.out.mono ?_
  rintro e w1 ⟨v, rfl, hown, hB1⟩
  obtain ⟨ao, cap, rfl, hIA⟩ := own_ints hown
  have HB1 : Hid (Below w.heap.size w w1) := hid (((Below.refl _ _).alloc (Nat.le_refl _) _).trans (hB1.mono (by simp)))
  have HIA := hid hIA
  have HFC := hid (HFR.out.next hB1)
  clear hown hB1 HPl hIA HFR
  change Hid (∀ x ∈ Pn.places f.half 105, 0 ≤ x ∧ x ≤ 15) at HIN
  change (Pn.places f.half 105).length ≤ f.half.length at hpl
  generalize Pn.places f.half 105 = P at *
  have hpl2 : P.length ≤ 16 := by omega
  go_wp2_with fail
  go_loopw [5, 12] (fun a i wr => ∃ j : Nat, j ≤ P.length ∧ i = .int .i64 j ∧ a = .int .i64 (Pn.imR f P n j) ∧ Below w1.heap.size w1 wr) (fun _ i _ => P.length - (intOf i).toNat)
  case atStart => exact ⟨0, Nat.zero_le _, rfl, rfl, Below.refl _ _⟩
  case round =>
    obtain ⟨j, hj, rfl, rfl, hB⟩ := hrel
    have HB := hid hB
    by_cases hlt : j < P.length
    · obtain ⟨g, rfl, hg1, hg2, hgc⟩ := (HIA.out.next hB).at' j hlt
      have hx := HIN.out (P.getD j 0) (by rw [List.getD_eq_getElem?_getD, List.getElem?_eq_getElem hlt]; exact List.getElem_mem _)
      have hbi := HBI.out j (by omega)
      have hb := Pn.bit11 n (P.getD j 0) (Pn.imB f.order j) hbi
      have HW : Hid (Pn.imR f P n (j + 1) = Pn.orz (Pn.imR f P n j) (Pn.imTerm f P n j)) := hid rfl
      have HT : Hid (Pn.imTerm f P n j = if j = 0 ∧ f.signed = true then -(Pn.bt n (P.getD j 0) * 2 ^ (Pn.imB f.order j).toNat) else Pn.bt n (P.getD j 0) * 2 ^ (Pn.imB f.order j).toNat) := hid rfl
      have hlt2 : (j : Int) < P.length := by omega
      have hFr := HFC.out.next hB
      have c0 := cell_regrown (hFr.2.2 0 _ rfl)
      have c1 := cell_regrown (hFr.2.2 1 _ rfl)
      have c2 := cell_regrown (hFr.2.2 2 _ rfl)
      have c3 := cell_regrown (hFr.2.2 3 _ rfl)
      have c4 := cell_regrown (hFr.2.2 4 _ rfl)
      have c5 := cell_regrown (hFr.2.2 5 _ rfl)
      have c6 := cell_regrown (hFr.2.2 6 _ rfl)
      have c7 := cell_regrown (hFr.2.2 7 _ rfl)
      have HIMB' := hid (fun w' => HIMB.out j w' (by omega))
      clear hB hg1 hFr
      generalize P.getD j 0 = X at *
      generalize Pn.imR f P n j = Y at *
      generalize Pn.imB f.order j = Z at *
      have wa : IntKind.i64.wrap (Pn.bitz n X X * 2 ^ Z.toNat) = Pn.bitz n X X * 2 ^ Z.toNat := IntWalk.i64_in _ (by unfold Pn.bt at hb; omega)
      go_wp2_with fail
      refine wp_region_quiet_below (by kernel_rfl) (by kernel_rfl) ?_
      repeat (quiet_step (first
        | (go_at_call 112; exact Calls.regrown_of ((ibits_is n X 1 _ (by omega) (by omega) (by decide) (by decide)).mono (by rintro e w' ⟨rfl, nk, rfl⟩; exact ⟨rfl, below_drewN (Below.refl _ _) _⟩)))
        | (go_at_call 124; exact Calls.regrown_of (HIMB'.out _))))
      refine wpQuiet_nil ?_
      intro _ hw'
      obtain ⟨⟨dq, osq⟩, hw''⟩ := hw'
      subst hw''
      by_cases h0 : j = 0
      · subst h0
        by_cases hsg : f.signed = true
        · go_wp2_with fail
          refine ⟨⟨1, by omega, rfl, ?_, HB.out.trans ((below_regrown wr dq osq).mono HB.out.size)⟩, by simp [intOf]; omega⟩
          have e : wrap64 (-(Pn.bitz n X X * 2 ^ Z.toNat)) = -(Pn.bt n X * 2 ^ Z.toNat) := w64 _ (by unfold Pn.bt at hb; omega)
          rw [HW.out, HT.out, if_pos ⟨rfl, hsg⟩, e]
          rfl
        · have hsg' : f.signed = false := by simpa using hsg
          go_wp2_with fail
          refine ⟨⟨1, by omega, rfl, ?_, HB.out.trans ((below_regrown wr dq osq).mono HB.out.size)⟩, by simp [intOf]; omega⟩
          rw [HW.out, HT.out, if_neg (fun h => hsg h.2)]
          rfl
      · have h0' : ¬ (j : Int) = 0 := by omega
        go_wp2_with fail
        refine ⟨⟨j + 1, by omega, by go_num, ?_, HB.out.trans ((below_regrown wr dq osq).mono HB.out.size)⟩, by simp [intOf]; omega⟩
        rw [HW.out, HT.out, if_neg (fun h => h0 h.1)]
        rfl
    · have hjn : j = P.length := by omega
      subst hjn
      go_wp2_with fail
      go_ret
      exact ⟨by rw [HR.out]; rfl, HB1.out.trans (HB.out.mono HB1.out.size)⟩
end Go.Proofs.YtbmcofdodfcnnaaGreatDoor

namespace Pn
/-- the digits 1 of a half -/
def oneR (l : List UInt8) : Nat → Int
  | 0 => 0
  | j + 1 => if (l.getD j 0).toNat = 49 then orz (oneR l j) (2 ^ (15 - (j : Int)).toNat) else oneR l j
theorem oneR_bd (l : List UInt8) (j : Nat) (hj : j ≤ 16) : 0 ≤ oneR l j ∧ oneR l j < 65536 := by
  induction j with
  | zero => simp [oneR]
  | succ j ih =>
    have h := ih (by omega)
    simp only [oneR]
    split
    · have hp : (2:Int) ^ (15 - (j : Int)).toNat ≤ 2 ^ 15 := pow_mono (by omega)
      have e : (2:Int) ^ 15 = 32768 := by decide
      have hp0 := pow_pos (15 - (j : Int)).toNat
      exact orz_lt16 _ _ h.1 h.2 (by omega) (by omega)
    · exact h
/-- Imm into a half -/
def wiR (f : Fm) (p : List Int) (imm : Int) (h0 : Int) : Nat → Int
  | 0 => h0
  | j + 1 => orz (wiR f p imm h0 j) (bt imm (imB f.order j) * 2 ^ (p.getD j 0).toNat)
theorem wiR_bd (f : Fm) (p : List Int) (imm h0 : Int) (b0 : 0 ≤ h0) (b1 : h0 < 65536) (hp : ∀ x ∈ p, 0 ≤ x ∧ x ≤ 15) (j : Nat) (hj : j ≤ p.length) : 0 ≤ wiR f p imm h0 j ∧ wiR f p imm h0 j < 65536 := by
  induction j with
  | zero => exact ⟨b0, b1⟩
  | succ j ih =>
    have h := ih (by omega)
    have hx : 0 ≤ p.getD j 0 ∧ p.getD j 0 ≤ 15 := hp _ (by rw [List.getD_eq_getElem?_getD, List.getElem?_eq_getElem (by omega)]; exact List.getElem_mem _)
    have hb := bit16 imm (imB f.order j) (p.getD j 0) hx
    exact orz_lt16 _ _ h.1 h.2 hb.1 hb.2
def wreg (f : Fm) (c r : Int) : Int := wrR (places f.half c) r (places f.half c).length
theorem wreg_bd (f : Fm) (hf : Fok f) (c r : Int) : 0 ≤ wreg f c r ∧ wreg f c r < 65536 := wrR_bd _ _ (pl_in f.half c f.half.length hf.len) _ (Nat.le_refl _)
def wbase (f : Fm) (i : Ins) : Int := orz (oneR f.half f.half.length) (orz (orz (wreg f 100 i.rd) (wreg f 115 i.rs1)) (wreg f 116 i.rs2))
theorem wbase_bd (f : Fm) (hf : Fok f) (i : Ins) : 0 ≤ wbase f i ∧ wbase f i < 65536 := by
  have h0 := oneR_bd f.half f.half.length hf.len
  have h1 := wreg_bd f hf 100 i.rd
  have h2 := wreg_bd f hf 115 i.rs1
  have h3 := wreg_bd f hf 116 i.rs2
  have h4 := orz_lt16 _ _ h1.1 h1.2 h2.1 h2.2
  have h5 := orz_lt16 _ _ h4.1 h4.2 h3.1 h3.2
  exact orz_lt16 _ _ h0.1 h0.2 h5.1 h5.2
/-- a form's half of an instruction -/
def writeP (f : Fm) (i : Ins) : Int := wiR f (places f.half 105) i.imm (wbase f i) (places f.half 105).length
end Pn
namespace Go.Proofs.YtbmcofdodfcnnaaGreatDoor
open Go.RowKit
structure WSt (w0 : World) (fr ic : List Value) (w : World) : Prop where
  f : CellsAt w0.heap.size fr w
  i : CellsAt (w0.heap.size + 1) ic w
  b : Below w0.heap.size w0 w
theorem WSt.next {w0 : World} {fr ic : List Value} {w w' : World} (h : WSt w0 fr ic w) (hB : Below w.heap.size w w') : WSt w0 fr ic w' :=
  ⟨h.f.next hB, h.i.next hB, h.b.trans (hB.mono h.b.size)⟩
theorem WSt.iter {w0 : World} {fr ic : List Value} {w : World} (h : WSt w0 fr ic w) (s : ByteArray) (p : Nat) : WSt w0 fr ic (w.iterAt (w0.heap.size + 2) s p) :=
  ⟨h.f.step (itersz w (w0.heap.size + 2) s p (Below.refl (w0.heap.size + 2) w) (Nat.le_refl _)) (by omega), h.i.step (itersz w (w0.heap.size + 2) s p (Below.refl (w0.heap.size + 2) w) (Nat.le_refl _)) (by omega), itersz w _ s p h.b (by omega)⟩
set_option maxRecDepth 20000 in
set_option maxHeartbeats 2000000 in
theorem write_is' (f : Pn.Fm) (i : Pn.Ins) (w : World) (hf : Pn.Fok f) :
    Calls Tryz.prog 65 #[.agg (frowOf f).toArray, i.val] w fun e w' => e = .returned (.int .i64 (Pn.writeP f i)) ∧ Below w.heap.size w w' := by
  have hA := hf.asc
  have hl := hf.len
  obtain ⟨iop, ird, irs1, irs2, iimm⟩ := i
  have HW : Hid (Pn.writeP f ⟨iop, ird, irs1, irs2, iimm⟩ = Pn.wiR f (Pn.places f.half 105) iimm (Pn.wbase f ⟨iop, ird, irs1, irs2, iimm⟩) (Pn.places f.half 105).length) := hid rfl
  have HWB : Hid (Pn.wbase f ⟨iop, ird, irs1, irs2, iimm⟩ = Pn.orz (Pn.oneR f.half f.half.length) (Pn.orz (Pn.orz (Pn.wreg f 100 ird) (Pn.wreg f 115 irs1)) (Pn.wreg f 116 irs2))) := hid rfl
  have HBD := hid (Pn.wbase_bd f hf ⟨iop, ird, irs1, irs2, iimm⟩)
  generalize Pn.wbase f ⟨iop, ird, irs1, irs2, iimm⟩ = WB at *
  have HPl := hid (fun w' => placesOf_is f 105 w' hA hl)
  have HIN := hid (Pn.pl_in f.half 105 f.half.length hl)
  have hpl := Pn.pl_len f.half 105 f.half.length
  have hord := hf.ord
  have HBI := hid hf.bit
  have HIMB := hid (fun k w' hk => immBit_is f k w' hk)
  have HWR := hid (fun c r w' => (show Calls Tryz.prog 122 #[.agg (frowOf f).toArray, .int .i32 c, .int .i64 r] w' fun e w'' => e = .returned (.int .i64 (Pn.wreg f c r)) ∧ Below w'.heap.size w' w'' from writeRegister_is f c r w' hA hl))
  have HFR := hid (CellsAt.new w (frowOf f) 114)
  unfold Pn.Ins.val
  unfold frowOf at *
  simp only at *
  generalize hS : (⟨f.half.toArray⟩ : ByteArray) = S at *
  have HS : Hid (S.data.toList = f.half) := hid (by rw [← hS])
  have hSz : S.size = f.half.length := by rw [← hS]; simp [ByteArray.size]
  clear hS
  go_enter Tryz.func65, Tryz.ntmps65
  go_wp2_with fail
  go_loopw [5] (fun a wr => ∃ j : Nat, j ≤ S.size ∧ a = .int .i64 (Pn.oneR f.half j) ∧ wr.heap[w.heap.size + 2]? = some (.stringIter S j) ∧ WSt w [.string S, .string ⟨f.order.toArray⟩, .bool f.signed, .int .i64 f.op, .int .i64 f.rd, .int .i64 f.rs1, .int .i64 f.rs2, .func (.func (holdF f.hold)) #[] #[]] [.int .i64 iop, .int .i64 ird, .int .i64 irs1, .int .i64 irs2, .int .i64 iimm] wr) (fun _ wr => S.size - wr.iterPos (w.heap.size + 2))
  case atStart =>
    have e2 : ((w.alloc (.cells #[.string S, .string ⟨f.order.toArray⟩, .bool f.signed, .int .i64 f.op, .int .i64 f.rd, .int .i64 f.rs1, .int .i64 f.rs2, .func (.func (holdF f.hold)) #[] #[]] 114)).alloc (.cells #[.int .i64 iop, .int .i64 ird, .int .i64 irs1, .int .i64 irs2, .int .i64 iimm] 26)).heap.size = w.heap.size + 2 := by simp
    have e3 := heap_alloc_last ((w.alloc (.cells #[.string S, .string ⟨f.order.toArray⟩, .bool f.signed, .int .i64 f.op, .int .i64 f.rd, .int .i64 f.rs1, .int .i64 f.rs2, .func (.func (holdF f.hold)) #[] #[]] 114)).alloc (.cells #[.int .i64 iop, .int .i64 ird, .int .i64 irs1, .int .i64 irs2, .int .i64 iimm] 26)) (.stringIter S 0)
    rw [e2] at e3
    have e4 := CellsAt.new (w.alloc (.cells #[.string S, .string ⟨f.order.toArray⟩, .bool f.signed, .int .i64 f.op, .int .i64 f.rd, .int .i64 f.rs1, .int .i64 f.rs2, .func (.func (holdF f.hold)) #[] #[]] 114)) [.int .i64 iop, .int .i64 ird, .int .i64 irs1, .int .i64 irs2, .int .i64 iimm] 26
    rw [World.size_alloc] at e4
    exact ⟨0, Nat.zero_le _, rfl, e3, ⟨(HFR.out.alloc _).alloc _, e4.alloc _, (((Below.refl _ _).alloc (Nat.le_refl _) _).alloc (by rw [World.size_alloc]; omega) _).alloc (by rw [World.size_alloc, World.size_alloc]; omega) _⟩⟩
  case round =>
    obtain ⟨j, hj, rfl, hit, hw⟩ := hrel
    by_cases hlt : j < S.size
    · have hjh : j < f.half.length := by omega
      have hSj : (S[j]'hlt) = f.half.getD j 0 := by
        have : S[j]'hlt = S.data.toList[j]'(by simpa using hlt) := rfl
        rw [this, List.getElem_of_eq HS.out]
        simp [hjh]
      have hasc : (S[j]'hlt).toNat < 128 := by
        rw [hSj, List.getD_eq_getElem?_getD, List.getElem?_eq_getElem hjh]
        exact hA _ (List.getElem_mem hjh)
      have hnx : ∀ ty, (Instr.next (.pointer (some ⟨w.heap.size + 1 + 1, 0, none⟩)) true ty).run Tryz.prog wr = .ok (.tuple #[.bool true, .int .i64 j, .int .i32 (S[j]'hlt).toNat]) (wr.iterAt (w.heap.size + 2) S (j + 1)) := fun ty =>
        Lib.run_next_ascii_at wr (w.heap.size + 2) S j ty hit hlt hasc
      have HWS := hid (hw.iter S (j + 1))
      have HIT := hid (Lib.iterAt_heap wr (w.heap.size + 2) S j (j + 1) hit)
      have HIT0 := hid hit
      have hbd := Pn.oneR_bd f.half j (by omega)
      have HO : Hid (Pn.oneR f.half (j + 1) = if (S[j]'hlt).toNat = 49 then Pn.orz (Pn.oneR f.half j) (2 ^ (15 - (j : Int)).toNat) else Pn.oneR f.half j) := hid (by rw [hSj]; rfl)
      clear hit hw
      generalize (S[j]'hlt).toNat = r at *
      clear hSj hasc
      generalize Pn.oneR f.half j = Y at *
      generalize wr.iterAt (w.heap.size + 2) S (j + 1) = W at *
      by_cases hc : r = 49
      · subst hc
        have HP : Hid (wrap64 (2 ^ (15 - j)) = 2 ^ (15 - (j : Int)).toNat) := hid (by
          have hp : (2:Int) ^ (15 - j) ≤ 2 ^ 15 := Pn.pow_mono (by omega)
          have hp1 : (2:Int) ^ 15 = 32768 := by decide
          have hp0 := Pn.pow_pos (15 - j)
          rw [show (15 - (j : Int)).toNat = 15 - j by omega]
          exact w64 _ (by omega))
        go_wp2_with fail
        refine ⟨⟨j + 1, by omega, ?_, HIT.out, HWS.out⟩, ?_⟩
        · rw [HO.out, if_pos rfl, HP.out]
          rfl
        · simp [World.iterPos, HIT.out, HIT0.out]
          omega
      · have hc' : ¬ (r : Int) = 49 := by omega
        go_wp2_with fail
        go_roundw
        case rel => exact ⟨j + 1, by omega, by rw [HO.out, if_neg hc], HIT.out, HWS.out⟩
        case measure =>
          simp [World.iterPos, HIT.out, HIT0.out]
          omega
    · have hje : j = S.size := by omega
      have hnx : ∀ ty, (Instr.next (.pointer (some ⟨w.heap.size + 1 + 1, 0, none⟩)) true ty).run Tryz.prog wr = .ok (.tuple #[.bool false]) wr := fun ty =>
        Lib.run_next_end_at wr (w.heap.size + 2) S j ty hit hlt
      subst hje
      have hbd := Pn.oneR_bd f.half S.size (by omega)
      rw [hSz] at hbd ⊢
      have HWS := hid hw
      clear hw hit
      generalize Pn.oneR f.half f.half.length = Y at *
      have c0 := cell_regrown (HWS.out.f.2.2 0 _ rfl)
      have c1 := cell_regrown (HWS.out.f.2.2 1 _ rfl)
      have c2 := cell_regrown (HWS.out.f.2.2 2 _ rfl)
      have c3 := cell_regrown (HWS.out.f.2.2 3 _ rfl)
      have c4 := cell_regrown (HWS.out.f.2.2 4 _ rfl)
      have c5 := cell_regrown (HWS.out.f.2.2 5 _ rfl)
      have c6 := cell_regrown (HWS.out.f.2.2 6 _ rfl)
      have c7 := cell_regrown (HWS.out.f.2.2 7 _ rfl)
      have d1 := cell_regrown (HWS.out.i.2.2 1 _ rfl)
      have d2 := cell_regrown (HWS.out.i.2.2 2 _ rfl)
      have d3 := cell_regrown (HWS.out.i.2.2 3 _ rfl)
      go_wp2_with fail
      refine wp_region_quiet_below (by kernel_rfl) (by kernel_rfl) ?_
      repeat (quiet_step (first
        | (go_at_call 122; exact Calls.regrown_of (HWR.out _ _ _))))
      refine wpQuiet_nil ?_
      intro _ hw'
      obtain ⟨⟨dq, osq⟩, hw''⟩ := hw'
      subst hw''
      have HE := HWB.out.symm
      unfold Pn.orz at HE
      rw [HE]
      have HW3 := hid (HWS.out.next (below_regrown wr dq osq))
      change Hid (∀ x ∈ Pn.places f.half 105, 0 ≤ x ∧ x ≤ 15) at HIN
      change (Pn.places f.half 105).length ≤ f.half.length at hpl
      clear c0 c1 c2 c3 c4 c5 c6 c7 d1 d2 d3 HE HWB HWR HWS HFR
      simp only at *
      generalize Go.Sort.grow (redrawn wr dq) osq = W3 at *
      have c0 := HW3.out.f.2.2 0 _ rfl
      have c1 := HW3.out.f.2.2 1 _ rfl
      have c2 := HW3.out.f.2.2 2 _ rfl
      have c3 := HW3.out.f.2.2 3 _ rfl
      have c4 := HW3.out.f.2.2 4 _ rfl
      have c5 := HW3.out.f.2.2 5 _ rfl
      have c6 := HW3.out.f.2.2 6 _ rfl
      have c7 := HW3.out.f.2.2 7 _ rfl
      go_wp2_with fail
      refine (HPl.out _).mono ?_
      rintro e w4 ⟨v, rfl, hown, hB4⟩
      obtain ⟨ao, cap, rfl, hIA⟩ := own_ints hown
      have HIA := hid hIA
      have HW4 := hid (HW3.out.next hB4)
      clear hown hB4 hIA HW3 HPl c0 c1 c2 c3 c4 c5 c6 c7
      generalize Pn.places f.half 105 = P at *
      have hpl2 : P.length ≤ 16 := by omega
      go_wp2_with fail
      go_loopw [5, 43] (fun a i wr => ∃ j : Nat, j ≤ P.length ∧ i = .int .i64 j ∧ a = .int .i64 (Pn.wiR f P iimm WB j) ∧ Below w4.heap.size w4 wr) (fun _ i _ => P.length - (intOf i).toNat)
      case atStart => exact ⟨0, Nat.zero_le _, rfl, rfl, Below.refl _ _⟩
      case round =>
        obtain ⟨j, hj2, rfl, rfl, hB⟩ := hrel
        have HB := hid hB
        by_cases hlt2 : j < P.length
        · obtain ⟨g, rfl, hg1, hg2, hgc⟩ := (HIA.out.next hB).at' j hlt2
          have hx := HIN.out (P.getD j 0) (by rw [List.getD_eq_getElem?_getD, List.getElem?_eq_getElem hlt2]; exact List.getElem_mem _)
          have hbi := HBI.out j (by omega)
          have hb := Pn.bit16 iimm (Pn.imB f.order j) (P.getD j 0) hx
          have HWW : Hid (Pn.wiR f P iimm WB (j + 1) = Pn.orz (Pn.wiR f P iimm WB j) (Pn.bt iimm (Pn.imB f.order j) * 2 ^ (P.getD j 0).toNat)) := hid rfl
          have hlt3 : (j : Int) < P.length := by omega
          have HW5 := hid (HW4.out.next hB)
          have c0 := cell_regrown (HW5.out.f.2.2 0 _ rfl)
          have c1 := cell_regrown (HW5.out.f.2.2 1 _ rfl)
          have c2 := cell_regrown (HW5.out.f.2.2 2 _ rfl)
          have c3 := cell_regrown (HW5.out.f.2.2 3 _ rfl)
          have c4 := cell_regrown (HW5.out.f.2.2 4 _ rfl)
          have c5 := cell_regrown (HW5.out.f.2.2 5 _ rfl)
          have c6 := cell_regrown (HW5.out.f.2.2 6 _ rfl)
          have c7 := cell_regrown (HW5.out.f.2.2 7 _ rfl)
          have d4 := cell_regrown (HW5.out.i.2.2 4 _ rfl)
          have HIMB' := hid (fun w' => HIMB.out j w' (by omega))
          clear hB hg1
          generalize P.getD j 0 = X at *
          generalize Pn.wiR f P iimm WB j = Y2 at *
          generalize Pn.imB f.order j = Z at *
          have wa : IntKind.i64.wrap (Pn.bitz iimm Z Z * 2 ^ X.toNat) = Pn.bitz iimm Z Z * 2 ^ X.toNat := IntWalk.i64_in _ (by unfold Pn.bt at hb; omega)
          go_wp2_with fail
          refine wp_region_quiet_below (by kernel_rfl) (by kernel_rfl) ?_
          repeat (quiet_step (first
            | (go_at_call 112; exact Calls.regrown_of ((ibits_is iimm Z 1 _ (by omega) (by omega) (by decide) (by decide)).mono (by rintro e w' ⟨rfl, nk, rfl⟩; exact ⟨rfl, below_drewN (Below.refl _ _) _⟩)))
            | (go_at_call 124; exact Calls.regrown_of (HIMB'.out _))))
          refine wpQuiet_nil ?_
          intro _ hw'
          obtain ⟨⟨dq, osq⟩, hw''⟩ := hw'
          subst hw''
          go_wp2_with fail
          refine ⟨⟨j + 1, by omega, by go_num, ?_, HB.out.trans ((below_regrown wr dq osq).mono HB.out.size)⟩, by simp [intOf]; omega⟩
          rw [HWW.out]
          rfl
        · have hjn : j = P.length := by omega
          subst hjn
          go_wp2_with fail
          go_ret
          exact ⟨by rw [HW.out]; rfl, HW4.out.b.trans (HB.out.mono HW4.out.b.size)⟩
end Go.Proofs.YtbmcofdodfcnnaaGreatDoor
