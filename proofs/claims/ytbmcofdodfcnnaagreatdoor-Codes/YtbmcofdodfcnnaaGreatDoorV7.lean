import Derived.Test.YtbmcofdodfcnnaaGreatDoorV6
import Derived.Test.YtbmcofdodfcnnaaGreatDoorPE
namespace Go.Proofs.YtbmcofdodfcnnaaGreatDoor
open Go.RowKit

/-- the pieces, from a world on -/
def PcAt (ps : List (Int × Int × Int)) (ao : Option Addr) (cap : Nat) (w : World) : Prop :=
  ∀ j p, ps[j]? = some p → ∃ b, ao = some ⟨b, 0, none⟩ ∧ b < w.heap.size ∧ ps.length ≤ cap ∧
    w.cell? ⟨b, j * 3, none⟩ = some (.int .i64 p.1) ∧ w.cell? ⟨b, j * 3 + 1, none⟩ = some (.int .i64 p.2.1) ∧ w.cell? ⟨b, j * 3 + 2, none⟩ = some (.int .i64 p.2.2)
theorem PcAt.next {ps : List (Int × Int × Int)} {ao : Option Addr} {cap : Nat} {w w' : World} (h : PcAt ps ao cap w) (hB : Below w.heap.size w w') : PcAt ps ao cap w' := fun j p hj => by
  obtain ⟨b, h1, h2, h3, h4, h5, h6⟩ := h j p hj
  exact ⟨b, h1, by have := hB.size; omega, h3, (hB.cell (p := ⟨b, _, none⟩) h2).trans h4, (hB.cell (p := ⟨b, _, none⟩) h2).trans h5, (hB.cell (p := ⟨b, _, none⟩) h2).trans h6⟩

def WRel (f : List (Int × Int × Int) → Int) (ps : List (Int × Int × Int)) (ao : Option Addr) (cap : Nat) (L : List Value) (w : World) (acc i : Value) (wr : World) : Prop :=
  ∃ j : Nat, j ≤ ps.length ∧ i = .int .i64 j ∧ acc = .int .i64 (f (ps.take j)) ∧ PcAt ps ao cap wr ∧ Below w.heap.size w wr ∧ CellsAt w.heap.size L wr

set_option maxRecDepth 100000 in
set_option maxHeartbeats 4000000 in
theorem immIntoWord_any (a b c ev : Bool) (lo hi g fx n : Int) (ao : Option Addr) (ps : List (Int × Int × Int)) (cp : Nat) (w : World) (hp : Pn.PB ps) (hl : ps.length ≤ 4) (hP : PcAt ps ao cp w) :
    Calls Tryz.prog 61 #[.agg #[.bool a, .bool b, .bool c, .int .i64 lo, .int .i64 hi, .bool ev, .slice ao ps.length cp, .int .i64 g, .int .i64 fx], .int .i64 n] w fun e w' =>
      e = .returned (.int .i64 (Pn.immw n ps 0)) ∧ Below w.heap.size w w' := by
  have HP := (show Hid _ from hP)
  have HPB := (show Hid _ from hp)
  have hlen : (ps.length : Int) ≤ 4 := by omega
  clear hP hp
  go_enter Tryz.func61, Tryz.ntmps61
  go_wp2_with fail
  go_loopw [5, 11] (fun acc i wr => WRel (fun q => Pn.immw n q 0) ps ao cp [.bool a, .bool b, .bool c, .int .i64 lo, .int .i64 hi, .bool ev, .slice ao ps.length cp, .int .i64 g, .int .i64 fx] w acc i wr) (fun _ i _ => ps.length - (intOf i).toNat)
  case atStart => exact ⟨0, by omega, rfl, rfl, PcAt.next HP.out ((Below.refl _ _).alloc (Nat.le_refl _) _), (Below.refl _ _).alloc (Nat.le_refl _) _, CellsAt.new w _ _⟩
  case round =>
    obtain ⟨j, hj, rfl, rfl, hpc, hB, hL⟩ := hrel
    by_cases hlt : j < ps.length
    · have hlt2 : (j : Int) < ps.length := by omega
      obtain ⟨p, hpj⟩ : ∃ p, ps[j]? = some p := ⟨_, List.getElem?_eq_getElem hlt⟩
      obtain ⟨b, hb, hb1, hb2, c0, c1, c2⟩ := hpc j p hpj
      subst hb
      have hbb : b < wr.heap.size := hb1
      obtain ⟨q1, q2, q3, q4, q5, q6⟩ := HPB.out p (List.mem_of_getElem? hpj)
      have HM := (show Hid _ from Pn.immw_more (n := n) hpj)
      have HPC := (show Hid _ from hpc)
      have HB := (show Hid _ from hB)
      have HL := (show Hid _ from hL)
      obtain ⟨p1, p2, p3⟩ := p
      simp only at c0 c1 c2 q1 q2 q3 q4 q5 q6
      have z := Pn.bz_bd20 n p1 p2 q1 q3 q4
      have z2 := Pn.bz_shl _ p3 z.1 z.2 q6
      have HW := (show Hid _ from w64 (Pn.bitz n (p1 + p2 - 1) p1 * 2 ^ p3.toNat) (by omega))
      clear hpc hB hL hpj z2
      generalize hA : Pn.immw n (ps.take j) 0 = A at HM ⊢
      go_wp2_with fail
      go_quiet ((go_at_call 112; exact Calls.quiet_of (ibits_is _ _ _ _ (by omega) (by omega) (by omega) (by omega))))
      go_wp2_with fail
      go_roundw
      case rel =>
        have hBn : Below wr.heap.size wr ((wr.alloc (.cells #[.int .i64 p1, .int .i64 p2, .int .i64 p3] 175)).drewN nq) := below_drewN ((Below.refl _ _).alloc (Nat.le_refl _) _) _
        refine ⟨j + 1, by omega, by go_num, ?_, PcAt.next HPC.out hBn, Below.trans HB.out (hBn.mono HB.out.size), CellsAt.next HL.out hBn⟩
        show _ = Value.int IntKind.i64 (Pn.immw n (List.take (j + 1) ps) 0)
        rw [HM.out, HW.out]
        rfl
      case measure => simp [intOf]; omega
    · have hje : j = ps.length := by omega
      subst hje
      rw [List.take_length]
      have HB := (show Hid _ from hB)
      go_wp2_with fail
      go_ret
      exact ⟨rfl, HB.out⟩


set_option maxRecDepth 100000 in
set_option maxHeartbeats 4000000 in
theorem immOfWord_any (a b c ev : Bool) (lo hi g fx n : Int) (ao : Option Addr) (ps : List (Int × Int × Int)) (cp : Nat) (w : World) (hp : Pn.PB ps) (hl : ps.length ≤ 4) (hP : PcAt ps ao cp w) (a0 : 0 ≤ Pn.immo n ps 0) (a1 : Pn.immo n ps 0 ≤ 2097152) (lo0 : -1048576 ≤ lo) (lo1 : lo ≤ 0) :
    Calls Tryz.prog 71 #[.agg #[.bool a, .bool b, .bool c, .int .i64 lo, .int .i64 hi, .bool ev, .slice ao ps.length cp, .int .i64 g, .int .i64 fx], .int .i64 n] w fun e w' =>
      e = .returned (.int .i64 (Pn.immW lo hi (Pn.immo n ps 0))) ∧ Below w.heap.size w w' := by
  have HP := (show Hid _ from hP)
  have HPB := (show Hid _ from hp)
  have hlen : (ps.length : Int) ≤ 4 := by omega
  clear hP hp
  go_enter Tryz.func71, Tryz.ntmps71
  go_wp2_with fail
  go_loopw [5, 11] (fun acc i wr => WRel (fun q => Pn.immo n q 0) ps ao cp [.bool a, .bool b, .bool c, .int .i64 lo, .int .i64 hi, .bool ev, .slice ao ps.length cp, .int .i64 g, .int .i64 fx] w acc i wr) (fun _ i _ => ps.length - (intOf i).toNat)
  case atStart => exact ⟨0, by omega, rfl, rfl, PcAt.next HP.out ((Below.refl _ _).alloc (Nat.le_refl _) _), (Below.refl _ _).alloc (Nat.le_refl _) _, CellsAt.new w _ _⟩
  case round =>
    obtain ⟨j, hj, rfl, rfl, hpc, hB, hL⟩ := hrel
    by_cases hlt : j < ps.length
    · have hlt2 : (j : Int) < ps.length := by omega
      obtain ⟨p, hpj⟩ : ∃ p, ps[j]? = some p := ⟨_, List.getElem?_eq_getElem hlt⟩
      obtain ⟨b, hb, hb1, hb2, c0, c1, c2⟩ := hpc j p hpj
      subst hb
      have hbb : b < wr.heap.size := hb1
      obtain ⟨q1, q2, q3, q4, q5, q6⟩ := HPB.out p (List.mem_of_getElem? hpj)
      have HM := (show Hid _ from Pn.immo_more (n := n) hpj)
      have HPC := (show Hid _ from hpc)
      have HB := (show Hid _ from hB)
      have HL := (show Hid _ from hL)
      obtain ⟨p1, p2, p3⟩ := p
      simp only at c0 c1 c2 q1 q2 q3 q4 q5 q6
      have z := Pn.bz_bd20 n p3 p2 q5 q3 q4
      have z2 := Pn.bz_shl _ p1 z.1 z.2 (by omega)
      have HW := (show Hid _ from w64 (Pn.bitz n (p3 + p2 - 1) p3 * 2 ^ p1.toNat) (by omega))
      clear hpc hB hL hpj z2
      generalize hA : Pn.immo n (ps.take j) 0 = A at HM ⊢
      go_wp2_with fail
      go_quiet ((go_at_call 112; exact Calls.quiet_of (ibits_is _ _ _ _ (by omega) (by omega) (by omega) (by omega))))
      go_wp2_with fail
      go_roundw
      case rel =>
        have hBn : Below wr.heap.size wr ((wr.alloc (.cells #[.int .i64 p1, .int .i64 p2, .int .i64 p3] 175)).drewN nq) := below_drewN ((Below.refl _ _).alloc (Nat.le_refl _) _) _
        refine ⟨j + 1, by omega, by go_num, ?_, PcAt.next HPC.out hBn, Below.trans HB.out (hBn.mono HB.out.size), CellsAt.next HL.out hBn⟩
        show _ = Value.int IntKind.i64 (Pn.immo n (List.take (j + 1) ps) 0)
        rw [HM.out, HW.out]
        rfl
      case measure => simp [intOf]; omega
    · have hje : j = ps.length := by omega
      subst hje
      rw [List.take_length]
      have HB := (show Hid _ from hB)
      obtain ⟨hz, _, lc⟩ := hL
      have l3 := lc 3 _ rfl
      have l4 := lc 4 _ rfl
      clear lc hB
      generalize hA : Pn.immo n ps 0 = A at *
      by_cases hm : hi < A
      · go_wp2_with fail
        go_ret
        refine ⟨ret_int ?_, HB.out⟩
        unfold Pn.immW; rw [hA, if_pos hm]
      · go_wp2_with fail
        go_ret
        refine ⟨ret_int ?_, HB.out⟩
        unfold Pn.immW; first | rw [hA, if_neg (by omega)] | rw [if_neg (by omega)]


end Go.Proofs.YtbmcofdodfcnnaaGreatDoor
