import Derived.Test.YtbmcofdodfcnnaaGreatDoorGX
import Derived.Test.YtbmcofdodfcnnaaGreatDoorGP
namespace Go.Proofs.YtbmcofdodfcnnaaGreatDoor
open Go.RowKit

def zIns : Obj := .cells #[.int .i64 0, .int .i64 0, .int .i64 0, .int .i64 0, .int .i64 0] 26
def DecRel (n : Int) (w : World) (C : Array Value) (i : Value) (wr : World) : Prop :=
  ∃ j : Nat, j ≤ 64 ∧ i = .int .i64 j ∧ Hid (∀ j', j' < j → Pn.decHit n j' = false) ∧ Below (w.heap.size + 2) ((w.alloc zIns).alloc (.cells C 214)) wr

/-- what the round of Decode finds in memory -/
theorem decRel_cells {w wr : World} {C : Array Value} (hB : Below (w.heap.size + 2) ((w.alloc zIns).alloc (.cells C 214)) wr) :
    (∀ o, o < 5 → wr.cell? ⟨w.heap.size, o, none⟩ = some (.int .i64 0)) ∧ (∀ o, wr.frozen? ⟨w.heap.size, o, none⟩ = false) ∧ (∀ o, wr.cell? ⟨w.heap.size + 1, o, none⟩ = C[o]?) ∧ w.heap.size + 2 ≤ wr.heap.size := by
  refine ⟨fun o ho => (hB.cell (p := ⟨w.heap.size, o, none⟩) (by simp)).trans ?_, fun o => (hB.frozen (p := ⟨w.heap.size, o, none⟩) (by simp)).trans ?_, fun o => (hB.cell (p := ⟨w.heap.size + 1, o, none⟩) (by simp)).trans ?_, by have := hB.size; simp at this; omega⟩
  · unfold zIns
    rcases o with _ | _ | _ | _ | _ | o
    all_goals first | omega | go_simp
  · unfold zIns; go_simp
  · go_simp

/-- the round of Decode, behind its test of the opcode: the row lies at b -/
def DecIn (w : World) (C : Array Value) (b kd : Nat) (w2 : World) : Prop :=
  w2.cell? ⟨b, 1, none⟩ = some (.int .u8 kd) ∧ w.heap.size + 2 ≤ b ∧ b < w2.heap.size ∧ Below (w.heap.size + 2) ((w.alloc zIns).alloc (.cells C 214)) w2
theorem decIn_of {w wr : World} {C : Array Value} (hB : Below (w.heap.size + 2) ((w.alloc zIns).alloc (.cells C 214)) wr) (hz : w.heap.size + 2 ≤ wr.heap.size)
    (s : ByteArray) (kd : Nat) (a b c : Value) (t nq : Nat) : DecIn w C wr.heap.size kd ((wr.alloc (.cells #[.string s, .int .u8 kd, a, b, c] t)).drewN nq) :=
  ⟨by go_simp, hz, by show wr.heap.size < (wr.alloc _).heap.size; simp, below_drewN (hB.alloc hz _) _⟩

theorem decAfter {w w2 w3 : World} {C : Array Value} (hB : Below (w.heap.size + 2) ((w.alloc zIns).alloc (.cells C 214)) w2) (hz : w.heap.size + 2 ≤ w2.heap.size)
    {a b c d e : Value} {t : Nat} (hB3 : Below (w2.alloc (.cells #[a, b, c, d, e] t)).heap.size (w2.alloc (.cells #[a, b, c, d, e] t)) w3) :
    (w3.cell? ⟨w2.heap.size, 0, none⟩ = some a ∧ w3.cell? ⟨w2.heap.size, 1, none⟩ = some b ∧ w3.cell? ⟨w2.heap.size, 2, none⟩ = some c ∧ w3.cell? ⟨w2.heap.size, 3, none⟩ = some d ∧ w3.cell? ⟨w2.heap.size, 4, none⟩ = some e) ∧
    Below (w.heap.size + 2) ((w.alloc zIns).alloc (.cells C 214)) w3 := by
  refine ⟨⟨(hB3.cell (p := ⟨w2.heap.size, 0, none⟩) (by simp)).trans (by go_simp), (hB3.cell (p := ⟨w2.heap.size, 1, none⟩) (by simp)).trans (by go_simp), (hB3.cell (p := ⟨w2.heap.size, 2, none⟩) (by simp)).trans (by go_simp), (hB3.cell (p := ⟨w2.heap.size, 3, none⟩) (by simp)).trans (by go_simp), (hB3.cell (p := ⟨w2.heap.size, 4, none⟩) (by simp)).trans (by go_simp)⟩, ?_⟩
  exact (hB.alloc hz _).trans (hB3.mono (by simp; omega))
theorem ret_t2' {a b : Value} {v : Value} (h : v = .tuple #[a, b]) : Ending.returned v = .returned (.tuple #[a, b]) := by rw [h]

theorem below5 {w w3 : World} (h : Below w.heap.size w w3) (a b c d e : Value) :
    Below w.heap.size w (((((w3.setCell ⟨w.heap.size, 0, none⟩ a).setCell ⟨w.heap.size, 1, none⟩ b).setCell ⟨w.heap.size, 2, none⟩ c).setCell ⟨w.heap.size, 3, none⟩ d).setCell ⟨w.heap.size, 4, none⟩ e) :=
  ((((h.setCell (Nat.le_refl _) _).setCell (Nat.le_refl _) _).setCell (Nat.le_refl _) _).setCell (Nat.le_refl _) _).setCell (Nat.le_refl _) _

set_option maxRecDepth 100000 in
set_option maxHeartbeats 8000000 in
theorem decode_in (n : Int) (w : World) (n0 : 0 ≤ n) (n1 : n < 4294967296) :
    Calls Tryz.prog 93 #[.int .i64 n] w fun e w' => e = .returned (.tuple #[(Pn.dec n).1.val, .int .i64 (Pn.dec n).2]) ∧ Below w.heap.size w w' := by
  have p32 : Pn.pow2 32 = 4294967296 := rfl
  go_enter Tryz.func93, Tryz.ntmps93
  go_wp2_with (first
    | (go_at_call 158; refine (power_is _ _ (by decide) (by decide)).mono ?_; rintro e w' ⟨rfl, rfl⟩)
    | (go_at_call 157; refine (rows_is _).mono ?_; rintro e w' ⟨C, hC, rfl, rfl⟩))
  go_loopw [5] (fun i wr => DecRel n w C i wr) (fun i _ => 64 - (intOf i).toNat)
  case atStart => exact ⟨0, by omega, rfl, fun _ h => by omega, Below.refl _ _⟩
  case round =>
    obtain ⟨k, hk, rfl, hno, hB⟩ := hrel
    obtain ⟨z0, zf, tc, hz⟩ := decRel_cells hB
    by_cases hlt : k < 64
    · obtain ⟨r0, r1, r2, r3, r4⟩ := hC k hlt
      have t0 := (tc (k * 5)).trans r0
      have t1 := (tc (k * 5 + 1)).trans r1
      have t2 := (tc (k * 5 + 2)).trans r2
      have t3 := (tc (k * 5 + 3)).trans r3
      have t4 := (tc (k * 5 + 4)).trans r4
      have HC : Hid (Pn.RowsC C) := hC
      have HB : Hid (Below (w.heap.size + 2) ((w.alloc zIns).alloc (.cells C 214)) wr) := hB
      have y0 := z0 0 (by omega)
      have y1 := z0 1 (by omega)
      have y2 := z0 2 (by omega)
      have y3 := z0 3 (by omega)
      have y4 := z0 4 (by omega)
      have hlt2 : (k : Int) < 64 := by omega
      clear hC hB tc z0 r0 r1 r2 r3 r4
      go_wp2_with fail
      go_quiet ((go_at_call 159; exact Calls.quiet_of_same (bits_is _ _ _ _ (by omega) (by omega) (by decide) (by decide) (by decide))))
      by_cases hop : (Pn.bitz n 6 0 != (Pn.row k).opc) = true
      · go_wp2_with fail
        go_roundw
        case rel => exact ⟨k + 1, by omega, by go_num, Pn.no_succ hno (Pn.decHit_op hop), below_drewN (HB.out.alloc hz _) _⟩
        case measure => simp [intOf]; omega
      · have hop' : (Pn.bitz n 6 0 != (Pn.row k).opc) = false := by simpa using hop
        clear hop
        have HD : DecIn w C wr.heap.size (Pn.row k).kind ((wr.alloc (Obj.cells #[Value.string { data := (Pn.row k).name.toArray }, Value.int IntKind.u8 ↑(Pn.row k).kind, Value.int IntKind.i64 (Pn.row k).opc, Value.int IntKind.i64 (Pn.row k).f, Value.int IntKind.i64 (Pn.row k).g] 214)).drewN nq) := decIn_of HB.out hz _ _ _ _ _ _ _
        clear t0 t1 t2 t3 t4 y0 y1 y2 y3 y4 zf HB
        generalize hb : wr.heap.size = b at *
        clear hb
        generalize (wr.alloc (Obj.cells #[Value.string { data := (Pn.row k).name.toArray }, Value.int IntKind.u8 ↑(Pn.row k).kind, Value.int IntKind.i64 (Pn.row k).opc, Value.int IntKind.i64 (Pn.row k).f, Value.int IntKind.i64 (Pn.row k).g] 214)).drewN nq = w2 at HD ⊢
        rcases Pn.kinds k hlt with hkd | hkd | hkd | hkd | hkd | hkd | hkd | hkd | hkd | hkd
        · have HI : Hid (Pn.decIns k n = ⟨k + 1, (Pn.bitz n 11 7), (Pn.bitz n 19 15), (Pn.bitz n 24 20), 0⟩) := Pn.decIns_R k n hkd
          rw [hkd] at HD
          have hh : Pn.has 82 = (true, true, true) := rfl
          clear hkd
          obtain ⟨q1, hb1, hb2, hB⟩ := HD
          have HB : Hid (Below (w.heap.size + 2) ((w.alloc zIns).alloc (.cells C 214)) w2) := hB
          clear hB
          go_wp2_with (first
            | (go_at_call 160; refine (has_any _ _).mono ?_; rintro e w' ⟨rfl, rfl⟩)
            | (go_at_call 159; refine (bits_is _ _ _ _ (by omega) (by omega) (by decide) (by decide) (by decide)).mono ?_; rintro e w' ⟨rfl, rfl⟩)
            | (go_at_call 158; refine (power_is _ _ (by decide) (by decide)).mono ?_; rintro e w' ⟨rfl, rfl⟩)
            | (go_at_call 161; refine (signed_is _ _ _ (by omega) (by omega) (by decide) (by decide)).mono ?_; rintro e w' ⟨rfl, rfl⟩))
          refine (encode_any ⟨k + 1, (Pn.bitz n 11 7), (Pn.bitz n 19 15), (Pn.bitz n 24 20), 0⟩ _).mono ?_
          rintro e w3 ⟨rfl, hB3⟩
          generalize hE : Pn.enc ⟨k + 1, (Pn.bitz n 11 7), (Pn.bitz n 19 15), (Pn.bitz n 24 20), 0⟩ = E at *
          have HE : Hid (Pn.enc ⟨k + 1, (Pn.bitz n 11 7), (Pn.bitz n 19 15), (Pn.bitz n 24 20), 0⟩ = E) := hE
          clear hE
          obtain ⟨⟨x0, x1, x2, x3, x4⟩, hB4⟩ := decAfter HB.out (by omega) hB3
          clear hB3 HB q1
          obtain ⟨z0, zf, _, hz3⟩ := decRel_cells hB4
          have HB4 : Hid (Below (w.heap.size + 2) ((w.alloc zIns).alloc (.cells C 214)) w3) := hB4
          clear hB4
          have y0 := z0 0 (by omega)
          have y1 := z0 1 (by omega)
          have y2 := z0 2 (by omega)
          have y3 := z0 3 (by omega)
          have y4 := z0 4 (by omega)
          clear z0
          by_cases e2 : (E.2 == 0) = true
          · by_cases e1 : (E.1 == n) = true
            · go_wp2_with fail
              refine bodyPost_ret (v := .tuple #[(Pn.Ins.mk (k + 1) (Pn.bitz n 11 7) (Pn.bitz n 19 15) (Pn.bitz n 24 20) 0).val, .int .i64 0]) (by simp [results, Tryz.results93, go_sem, y0, y1, y2, y3, y4, Pn.Ins.val]) rfl ⟨?_, ?_⟩
              · rw [Pn.dec_hit n0 n1 hlt hno (Pn.decHit_yes hop' HI.out HE.out e2 e1), HI.out]
              · exact below5 (((Below.refl _ _).alloc (Nat.le_refl _) _).alloc (by simp) _ |>.trans (HB4.out.mono (by omega))) _ _ _ _ _
            · have e1' : (E.1 == n) = false := by simpa using e1
              go_wp2_with fail
              go_roundw
              case rel => exact ⟨k + 1, by omega, by go_num, Pn.no_succ hno (Pn.decHit_no HI.out HE.out (.inr e1')), HB4.out⟩
              case measure => simp [intOf]; omega
          · have e2' : (E.2 == 0) = false := by simpa using e2
            go_wp2_with fail
            go_roundw
            case rel => exact ⟨k + 1, by omega, by go_num, Pn.no_succ hno (Pn.decHit_no HI.out HE.out (.inl e2')), HB4.out⟩
            case measure => simp [intOf]; omega
        · have HI : Hid (Pn.decIns k n = ⟨k + 1, (Pn.bitz n 11 7), (Pn.bitz n 19 15), 0, (Pn.signd (Pn.bitz n 31 20) 12)⟩) := Pn.decIns_I k n hkd
          rw [hkd] at HD
          have hh : Pn.has 73 = (true, true, false) := rfl
          clear hkd
          obtain ⟨q1, hb1, hb2, hB⟩ := HD
          have HB : Hid (Below (w.heap.size + 2) ((w.alloc zIns).alloc (.cells C 214)) w2) := hB
          clear hB
          have b31_20 := Pn.bz_31_20 n
          go_wp2_with (first
            | (go_at_call 160; refine (has_any _ _).mono ?_; rintro e w' ⟨rfl, rfl⟩)
            | (go_at_call 159; refine (bits_is _ _ _ _ (by omega) (by omega) (by decide) (by decide) (by decide)).mono ?_; rintro e w' ⟨rfl, rfl⟩)
            | (go_at_call 158; refine (power_is _ _ (by decide) (by decide)).mono ?_; rintro e w' ⟨rfl, rfl⟩)
            | (go_at_call 161; refine (signed_is _ _ _ (by omega) (by omega) (by decide) (by decide)).mono ?_; rintro e w' ⟨rfl, rfl⟩))
          refine (encode_any ⟨k + 1, (Pn.bitz n 11 7), (Pn.bitz n 19 15), 0, (Pn.signd (Pn.bitz n 31 20) 12)⟩ _).mono ?_
          rintro e w3 ⟨rfl, hB3⟩
          generalize hE : Pn.enc ⟨k + 1, (Pn.bitz n 11 7), (Pn.bitz n 19 15), 0, (Pn.signd (Pn.bitz n 31 20) 12)⟩ = E at *
          have HE : Hid (Pn.enc ⟨k + 1, (Pn.bitz n 11 7), (Pn.bitz n 19 15), 0, (Pn.signd (Pn.bitz n 31 20) 12)⟩ = E) := hE
          clear hE
          obtain ⟨⟨x0, x1, x2, x3, x4⟩, hB4⟩ := decAfter HB.out (by omega) hB3
          clear hB3 HB q1
          obtain ⟨z0, zf, _, hz3⟩ := decRel_cells hB4
          have HB4 : Hid (Below (w.heap.size + 2) ((w.alloc zIns).alloc (.cells C 214)) w3) := hB4
          clear hB4
          have y0 := z0 0 (by omega)
          have y1 := z0 1 (by omega)
          have y2 := z0 2 (by omega)
          have y3 := z0 3 (by omega)
          have y4 := z0 4 (by omega)
          clear z0
          by_cases e2 : (E.2 == 0) = true
          · by_cases e1 : (E.1 == n) = true
            · go_wp2_with fail
              refine bodyPost_ret (v := .tuple #[(Pn.Ins.mk (k + 1) (Pn.bitz n 11 7) (Pn.bitz n 19 15) 0 (Pn.signd (Pn.bitz n 31 20) 12)).val, .int .i64 0]) (by simp [results, Tryz.results93, go_sem, y0, y1, y2, y3, y4, Pn.Ins.val]) rfl ⟨?_, ?_⟩
              · rw [Pn.dec_hit n0 n1 hlt hno (Pn.decHit_yes hop' HI.out HE.out e2 e1), HI.out]
              · exact below5 (((Below.refl _ _).alloc (Nat.le_refl _) _).alloc (by simp) _ |>.trans (HB4.out.mono (by omega))) _ _ _ _ _
            · have e1' : (E.1 == n) = false := by simpa using e1
              go_wp2_with fail
              go_roundw
              case rel => exact ⟨k + 1, by omega, by go_num, Pn.no_succ hno (Pn.decHit_no HI.out HE.out (.inr e1')), HB4.out⟩
              case measure => simp [intOf]; omega
          · have e2' : (E.2 == 0) = false := by simpa using e2
            go_wp2_with fail
            go_roundw
            case rel => exact ⟨k + 1, by omega, by go_num, Pn.no_succ hno (Pn.decHit_no HI.out HE.out (.inl e2')), HB4.out⟩
            case measure => simp [intOf]; omega
        · have HI : Hid (Pn.decIns k n = ⟨k + 1, (Pn.bitz n 11 7), (Pn.bitz n 19 15), 0, (Pn.signd (Pn.bitz n 31 20) 12)⟩) := Pn.decIns_L k n hkd
          rw [hkd] at HD
          have hh : Pn.has 76 = (true, true, false) := rfl
          clear hkd
          obtain ⟨q1, hb1, hb2, hB⟩ := HD
          have HB : Hid (Below (w.heap.size + 2) ((w.alloc zIns).alloc (.cells C 214)) w2) := hB
          clear hB
          have b31_20 := Pn.bz_31_20 n
          go_wp2_with (first
            | (go_at_call 160; refine (has_any _ _).mono ?_; rintro e w' ⟨rfl, rfl⟩)
            | (go_at_call 159; refine (bits_is _ _ _ _ (by omega) (by omega) (by decide) (by decide) (by decide)).mono ?_; rintro e w' ⟨rfl, rfl⟩)
            | (go_at_call 158; refine (power_is _ _ (by decide) (by decide)).mono ?_; rintro e w' ⟨rfl, rfl⟩)
            | (go_at_call 161; refine (signed_is _ _ _ (by omega) (by omega) (by decide) (by decide)).mono ?_; rintro e w' ⟨rfl, rfl⟩))
          refine (encode_any ⟨k + 1, (Pn.bitz n 11 7), (Pn.bitz n 19 15), 0, (Pn.signd (Pn.bitz n 31 20) 12)⟩ _).mono ?_
          rintro e w3 ⟨rfl, hB3⟩
          generalize hE : Pn.enc ⟨k + 1, (Pn.bitz n 11 7), (Pn.bitz n 19 15), 0, (Pn.signd (Pn.bitz n 31 20) 12)⟩ = E at *
          have HE : Hid (Pn.enc ⟨k + 1, (Pn.bitz n 11 7), (Pn.bitz n 19 15), 0, (Pn.signd (Pn.bitz n 31 20) 12)⟩ = E) := hE
          clear hE
          obtain ⟨⟨x0, x1, x2, x3, x4⟩, hB4⟩ := decAfter HB.out (by omega) hB3
          clear hB3 HB q1
          obtain ⟨z0, zf, _, hz3⟩ := decRel_cells hB4
          have HB4 : Hid (Below (w.heap.size + 2) ((w.alloc zIns).alloc (.cells C 214)) w3) := hB4
          clear hB4
          have y0 := z0 0 (by omega)
          have y1 := z0 1 (by omega)
          have y2 := z0 2 (by omega)
          have y3 := z0 3 (by omega)
          have y4 := z0 4 (by omega)
          clear z0
          by_cases e2 : (E.2 == 0) = true
          · by_cases e1 : (E.1 == n) = true
            · go_wp2_with fail
              refine bodyPost_ret (v := .tuple #[(Pn.Ins.mk (k + 1) (Pn.bitz n 11 7) (Pn.bitz n 19 15) 0 (Pn.signd (Pn.bitz n 31 20) 12)).val, .int .i64 0]) (by simp [results, Tryz.results93, go_sem, y0, y1, y2, y3, y4, Pn.Ins.val]) rfl ⟨?_, ?_⟩
              · rw [Pn.dec_hit n0 n1 hlt hno (Pn.decHit_yes hop' HI.out HE.out e2 e1), HI.out]
              · exact below5 (((Below.refl _ _).alloc (Nat.le_refl _) _).alloc (by simp) _ |>.trans (HB4.out.mono (by omega))) _ _ _ _ _
            · have e1' : (E.1 == n) = false := by simpa using e1
              go_wp2_with fail
              go_roundw
              case rel => exact ⟨k + 1, by omega, by go_num, Pn.no_succ hno (Pn.decHit_no HI.out HE.out (.inr e1')), HB4.out⟩
              case measure => simp [intOf]; omega
          · have e2' : (E.2 == 0) = false := by simpa using e2
            go_wp2_with fail
            go_roundw
            case rel => exact ⟨k + 1, by omega, by go_num, Pn.no_succ hno (Pn.decHit_no HI.out HE.out (.inl e2')), HB4.out⟩
            case measure => simp [intOf]; omega
        · have HI : Hid (Pn.decIns k n = ⟨k + 1, (Pn.bitz n 11 7), (Pn.bitz n 19 15), 0, (Pn.bitz n 25 20)⟩) := Pn.decIns_H k n hkd
          rw [hkd] at HD
          have hh : Pn.has 72 = (true, true, false) := rfl
          clear hkd
          obtain ⟨q1, hb1, hb2, hB⟩ := HD
          have HB : Hid (Below (w.heap.size + 2) ((w.alloc zIns).alloc (.cells C 214)) w2) := hB
          clear hB
          have b25_20 := Pn.bz_25_20 n
          go_wp2_with (first
            | (go_at_call 160; refine (has_any _ _).mono ?_; rintro e w' ⟨rfl, rfl⟩)
            | (go_at_call 159; refine (bits_is _ _ _ _ (by omega) (by omega) (by decide) (by decide) (by decide)).mono ?_; rintro e w' ⟨rfl, rfl⟩)
            | (go_at_call 158; refine (power_is _ _ (by decide) (by decide)).mono ?_; rintro e w' ⟨rfl, rfl⟩)
            | (go_at_call 161; refine (signed_is _ _ _ (by omega) (by omega) (by decide) (by decide)).mono ?_; rintro e w' ⟨rfl, rfl⟩))
          refine (encode_any ⟨k + 1, (Pn.bitz n 11 7), (Pn.bitz n 19 15), 0, (Pn.bitz n 25 20)⟩ _).mono ?_
          rintro e w3 ⟨rfl, hB3⟩
          generalize hE : Pn.enc ⟨k + 1, (Pn.bitz n 11 7), (Pn.bitz n 19 15), 0, (Pn.bitz n 25 20)⟩ = E at *
          have HE : Hid (Pn.enc ⟨k + 1, (Pn.bitz n 11 7), (Pn.bitz n 19 15), 0, (Pn.bitz n 25 20)⟩ = E) := hE
          clear hE
          obtain ⟨⟨x0, x1, x2, x3, x4⟩, hB4⟩ := decAfter HB.out (by omega) hB3
          clear hB3 HB q1
          obtain ⟨z0, zf, _, hz3⟩ := decRel_cells hB4
          have HB4 : Hid (Below (w.heap.size + 2) ((w.alloc zIns).alloc (.cells C 214)) w3) := hB4
          clear hB4
          have y0 := z0 0 (by omega)
          have y1 := z0 1 (by omega)
          have y2 := z0 2 (by omega)
          have y3 := z0 3 (by omega)
          have y4 := z0 4 (by omega)
          clear z0
          by_cases e2 : (E.2 == 0) = true
          · by_cases e1 : (E.1 == n) = true
            · go_wp2_with fail
              refine bodyPost_ret (v := .tuple #[(Pn.Ins.mk (k + 1) (Pn.bitz n 11 7) (Pn.bitz n 19 15) 0 (Pn.bitz n 25 20)).val, .int .i64 0]) (by simp [results, Tryz.results93, go_sem, y0, y1, y2, y3, y4, Pn.Ins.val]) rfl ⟨?_, ?_⟩
              · rw [Pn.dec_hit n0 n1 hlt hno (Pn.decHit_yes hop' HI.out HE.out e2 e1), HI.out]
              · exact below5 (((Below.refl _ _).alloc (Nat.le_refl _) _).alloc (by simp) _ |>.trans (HB4.out.mono (by omega))) _ _ _ _ _
            · have e1' : (E.1 == n) = false := by simpa using e1
              go_wp2_with fail
              go_roundw
              case rel => exact ⟨k + 1, by omega, by go_num, Pn.no_succ hno (Pn.decHit_no HI.out HE.out (.inr e1')), HB4.out⟩
              case measure => simp [intOf]; omega
          · have e2' : (E.2 == 0) = false := by simpa using e2
            go_wp2_with fail
            go_roundw
            case rel => exact ⟨k + 1, by omega, by go_num, Pn.no_succ hno (Pn.decHit_no HI.out HE.out (.inl e2')), HB4.out⟩
            case measure => simp [intOf]; omega
        · have HI : Hid (Pn.decIns k n = ⟨k + 1, (Pn.bitz n 11 7), (Pn.bitz n 19 15), 0, (Pn.bitz n 24 20)⟩) := Pn.decIns_W k n hkd
          rw [hkd] at HD
          have hh : Pn.has 87 = (true, true, false) := rfl
          clear hkd
          obtain ⟨q1, hb1, hb2, hB⟩ := HD
          have HB : Hid (Below (w.heap.size + 2) ((w.alloc zIns).alloc (.cells C 214)) w2) := hB
          clear hB
          have b24_20 := Pn.bz_24_20 n
          go_wp2_with (first
            | (go_at_call 160; refine (has_any _ _).mono ?_; rintro e w' ⟨rfl, rfl⟩)
            | (go_at_call 159; refine (bits_is _ _ _ _ (by omega) (by omega) (by decide) (by decide) (by decide)).mono ?_; rintro e w' ⟨rfl, rfl⟩)
            | (go_at_call 158; refine (power_is _ _ (by decide) (by decide)).mono ?_; rintro e w' ⟨rfl, rfl⟩)
            | (go_at_call 161; refine (signed_is _ _ _ (by omega) (by omega) (by decide) (by decide)).mono ?_; rintro e w' ⟨rfl, rfl⟩))
          refine (encode_any ⟨k + 1, (Pn.bitz n 11 7), (Pn.bitz n 19 15), 0, (Pn.bitz n 24 20)⟩ _).mono ?_
          rintro e w3 ⟨rfl, hB3⟩
          generalize hE : Pn.enc ⟨k + 1, (Pn.bitz n 11 7), (Pn.bitz n 19 15), 0, (Pn.bitz n 24 20)⟩ = E at *
          have HE : Hid (Pn.enc ⟨k + 1, (Pn.bitz n 11 7), (Pn.bitz n 19 15), 0, (Pn.bitz n 24 20)⟩ = E) := hE
          clear hE
          obtain ⟨⟨x0, x1, x2, x3, x4⟩, hB4⟩ := decAfter HB.out (by omega) hB3
          clear hB3 HB q1
          obtain ⟨z0, zf, _, hz3⟩ := decRel_cells hB4
          have HB4 : Hid (Below (w.heap.size + 2) ((w.alloc zIns).alloc (.cells C 214)) w3) := hB4
          clear hB4
          have y0 := z0 0 (by omega)
          have y1 := z0 1 (by omega)
          have y2 := z0 2 (by omega)
          have y3 := z0 3 (by omega)
          have y4 := z0 4 (by omega)
          clear z0
          by_cases e2 : (E.2 == 0) = true
          · by_cases e1 : (E.1 == n) = true
            · go_wp2_with fail
              refine bodyPost_ret (v := .tuple #[(Pn.Ins.mk (k + 1) (Pn.bitz n 11 7) (Pn.bitz n 19 15) 0 (Pn.bitz n 24 20)).val, .int .i64 0]) (by simp [results, Tryz.results93, go_sem, y0, y1, y2, y3, y4, Pn.Ins.val]) rfl ⟨?_, ?_⟩
              · rw [Pn.dec_hit n0 n1 hlt hno (Pn.decHit_yes hop' HI.out HE.out e2 e1), HI.out]
              · exact below5 (((Below.refl _ _).alloc (Nat.le_refl _) _).alloc (by simp) _ |>.trans (HB4.out.mono (by omega))) _ _ _ _ _
            · have e1' : (E.1 == n) = false := by simpa using e1
              go_wp2_with fail
              go_roundw
              case rel => exact ⟨k + 1, by omega, by go_num, Pn.no_succ hno (Pn.decHit_no HI.out HE.out (.inr e1')), HB4.out⟩
              case measure => simp [intOf]; omega
          · have e2' : (E.2 == 0) = false := by simpa using e2
            go_wp2_with fail
            go_roundw
            case rel => exact ⟨k + 1, by omega, by go_num, Pn.no_succ hno (Pn.decHit_no HI.out HE.out (.inl e2')), HB4.out⟩
            case measure => simp [intOf]; omega
        · have HI : Hid (Pn.decIns k n = ⟨k + 1, 0, (Pn.bitz n 19 15), (Pn.bitz n 24 20), (Pn.signd (Pn.bitz n 31 25 * 32 + Pn.bitz n 11 7) 12)⟩) := Pn.decIns_S k n hkd
          rw [hkd] at HD
          have hh : Pn.has 83 = (false, true, true) := rfl
          clear hkd
          obtain ⟨q1, hb1, hb2, hB⟩ := HD
          have HB : Hid (Below (w.heap.size + 2) ((w.alloc zIns).alloc (.cells C 214)) w2) := hB
          clear hB
          have b31_25 := Pn.bz_31_25 n
          have b11_7 := Pn.bz_11_7 n
          have p5 : Pn.pow2 5 = 32 := rfl
          have p11 : Pn.pow2 11 = 2048 := rfl
          have p12 : Pn.pow2 12 = 4096 := rfl
          have p20 : Pn.pow2 20 = 1048576 := rfl
          go_wp2_with (first
            | (go_at_call 160; refine (has_any _ _).mono ?_; rintro e w' ⟨rfl, rfl⟩)
            | (go_at_call 159; refine (bits_is _ _ _ _ (by omega) (by omega) (by decide) (by decide) (by decide)).mono ?_; rintro e w' ⟨rfl, rfl⟩)
            | (go_at_call 158; refine (power_is _ _ (by decide) (by decide)).mono ?_; rintro e w' ⟨rfl, rfl⟩)
            | (go_at_call 161; refine (signed_is _ _ _ (by omega) (by omega) (by decide) (by decide)).mono ?_; rintro e w' ⟨rfl, rfl⟩))
          refine (encode_any ⟨k + 1, 0, (Pn.bitz n 19 15), (Pn.bitz n 24 20), (Pn.signd (Pn.bitz n 31 25 * 32 + Pn.bitz n 11 7) 12)⟩ _).mono ?_
          rintro e w3 ⟨rfl, hB3⟩
          generalize hE : Pn.enc ⟨k + 1, 0, (Pn.bitz n 19 15), (Pn.bitz n 24 20), (Pn.signd (Pn.bitz n 31 25 * 32 + Pn.bitz n 11 7) 12)⟩ = E at *
          have HE : Hid (Pn.enc ⟨k + 1, 0, (Pn.bitz n 19 15), (Pn.bitz n 24 20), (Pn.signd (Pn.bitz n 31 25 * 32 + Pn.bitz n 11 7) 12)⟩ = E) := hE
          clear hE
          obtain ⟨⟨x0, x1, x2, x3, x4⟩, hB4⟩ := decAfter HB.out (by omega) hB3
          clear hB3 HB q1
          obtain ⟨z0, zf, _, hz3⟩ := decRel_cells hB4
          have HB4 : Hid (Below (w.heap.size + 2) ((w.alloc zIns).alloc (.cells C 214)) w3) := hB4
          clear hB4
          have y0 := z0 0 (by omega)
          have y1 := z0 1 (by omega)
          have y2 := z0 2 (by omega)
          have y3 := z0 3 (by omega)
          have y4 := z0 4 (by omega)
          clear z0
          by_cases e2 : (E.2 == 0) = true
          · by_cases e1 : (E.1 == n) = true
            · go_wp2_with fail
              refine bodyPost_ret (v := .tuple #[(Pn.Ins.mk (k + 1) 0 (Pn.bitz n 19 15) (Pn.bitz n 24 20) (Pn.signd (Pn.bitz n 31 25 * 32 + Pn.bitz n 11 7) 12)).val, .int .i64 0]) (by simp [results, Tryz.results93, go_sem, y0, y1, y2, y3, y4, Pn.Ins.val]) rfl ⟨?_, ?_⟩
              · rw [Pn.dec_hit n0 n1 hlt hno (Pn.decHit_yes hop' HI.out HE.out e2 e1), HI.out]
              · exact below5 (((Below.refl _ _).alloc (Nat.le_refl _) _).alloc (by simp) _ |>.trans (HB4.out.mono (by omega))) _ _ _ _ _
            · have e1' : (E.1 == n) = false := by simpa using e1
              go_wp2_with fail
              go_roundw
              case rel => exact ⟨k + 1, by omega, by go_num, Pn.no_succ hno (Pn.decHit_no HI.out HE.out (.inr e1')), HB4.out⟩
              case measure => simp [intOf]; omega
          · have e2' : (E.2 == 0) = false := by simpa using e2
            go_wp2_with fail
            go_roundw
            case rel => exact ⟨k + 1, by omega, by go_num, Pn.no_succ hno (Pn.decHit_no HI.out HE.out (.inl e2')), HB4.out⟩
            case measure => simp [intOf]; omega
        · have HI : Hid (Pn.decIns k n = ⟨k + 1, 0, (Pn.bitz n 19 15), (Pn.bitz n 24 20), (Pn.signd (Pn.bitz n 31 31 * 4096 + Pn.bitz n 7 7 * 2048 + Pn.bitz n 30 25 * 32 + Pn.bitz n 11 8 * 2) 13)⟩) := Pn.decIns_B k n hkd
          rw [hkd] at HD
          have hh : Pn.has 66 = (false, true, true) := rfl
          clear hkd
          obtain ⟨q1, hb1, hb2, hB⟩ := HD
          have HB : Hid (Below (w.heap.size + 2) ((w.alloc zIns).alloc (.cells C 214)) w2) := hB
          clear hB
          have b31_31 := Pn.bz_31_31 n
          have b7_7 := Pn.bz_7_7 n
          have b30_25 := Pn.bz_30_25 n
          have b11_8 := Pn.bz_11_8 n
          have p5 : Pn.pow2 5 = 32 := rfl
          have p11 : Pn.pow2 11 = 2048 := rfl
          have p12 : Pn.pow2 12 = 4096 := rfl
          have p20 : Pn.pow2 20 = 1048576 := rfl
          go_wp2_with (first
            | (go_at_call 160; refine (has_any _ _).mono ?_; rintro e w' ⟨rfl, rfl⟩)
            | (go_at_call 159; refine (bits_is _ _ _ _ (by omega) (by omega) (by decide) (by decide) (by decide)).mono ?_; rintro e w' ⟨rfl, rfl⟩)
            | (go_at_call 158; refine (power_is _ _ (by decide) (by decide)).mono ?_; rintro e w' ⟨rfl, rfl⟩)
            | (go_at_call 161; refine (signed_is _ _ _ (by omega) (by omega) (by decide) (by decide)).mono ?_; rintro e w' ⟨rfl, rfl⟩))
          refine (encode_any ⟨k + 1, 0, (Pn.bitz n 19 15), (Pn.bitz n 24 20), (Pn.signd (Pn.bitz n 31 31 * 4096 + Pn.bitz n 7 7 * 2048 + Pn.bitz n 30 25 * 32 + Pn.bitz n 11 8 * 2) 13)⟩ _).mono ?_
          rintro e w3 ⟨rfl, hB3⟩
          generalize hE : Pn.enc ⟨k + 1, 0, (Pn.bitz n 19 15), (Pn.bitz n 24 20), (Pn.signd (Pn.bitz n 31 31 * 4096 + Pn.bitz n 7 7 * 2048 + Pn.bitz n 30 25 * 32 + Pn.bitz n 11 8 * 2) 13)⟩ = E at *
          have HE : Hid (Pn.enc ⟨k + 1, 0, (Pn.bitz n 19 15), (Pn.bitz n 24 20), (Pn.signd (Pn.bitz n 31 31 * 4096 + Pn.bitz n 7 7 * 2048 + Pn.bitz n 30 25 * 32 + Pn.bitz n 11 8 * 2) 13)⟩ = E) := hE
          clear hE
          obtain ⟨⟨x0, x1, x2, x3, x4⟩, hB4⟩ := decAfter HB.out (by omega) hB3
          clear hB3 HB q1
          obtain ⟨z0, zf, _, hz3⟩ := decRel_cells hB4
          have HB4 : Hid (Below (w.heap.size + 2) ((w.alloc zIns).alloc (.cells C 214)) w3) := hB4
          clear hB4
          have y0 := z0 0 (by omega)
          have y1 := z0 1 (by omega)
          have y2 := z0 2 (by omega)
          have y3 := z0 3 (by omega)
          have y4 := z0 4 (by omega)
          clear z0
          by_cases e2 : (E.2 == 0) = true
          · by_cases e1 : (E.1 == n) = true
            · go_wp2_with fail
              refine bodyPost_ret (v := .tuple #[(Pn.Ins.mk (k + 1) 0 (Pn.bitz n 19 15) (Pn.bitz n 24 20) (Pn.signd (Pn.bitz n 31 31 * 4096 + Pn.bitz n 7 7 * 2048 + Pn.bitz n 30 25 * 32 + Pn.bitz n 11 8 * 2) 13)).val, .int .i64 0]) (by simp [results, Tryz.results93, go_sem, y0, y1, y2, y3, y4, Pn.Ins.val]) rfl ⟨?_, ?_⟩
              · rw [Pn.dec_hit n0 n1 hlt hno (Pn.decHit_yes hop' HI.out HE.out e2 e1), HI.out]
              · exact below5 (((Below.refl _ _).alloc (Nat.le_refl _) _).alloc (by simp) _ |>.trans (HB4.out.mono (by omega))) _ _ _ _ _
            · have e1' : (E.1 == n) = false := by simpa using e1
              go_wp2_with fail
              go_roundw
              case rel => exact ⟨k + 1, by omega, by go_num, Pn.no_succ hno (Pn.decHit_no HI.out HE.out (.inr e1')), HB4.out⟩
              case measure => simp [intOf]; omega
          · have e2' : (E.2 == 0) = false := by simpa using e2
            go_wp2_with fail
            go_roundw
            case rel => exact ⟨k + 1, by omega, by go_num, Pn.no_succ hno (Pn.decHit_no HI.out HE.out (.inl e2')), HB4.out⟩
            case measure => simp [intOf]; omega
        · have HI : Hid (Pn.decIns k n = ⟨k + 1, (Pn.bitz n 11 7), 0, 0, (Pn.signd (Pn.bitz n 31 12) 20)⟩) := Pn.decIns_U k n hkd
          rw [hkd] at HD
          have hh : Pn.has 85 = (true, false, false) := rfl
          clear hkd
          obtain ⟨q1, hb1, hb2, hB⟩ := HD
          have HB : Hid (Below (w.heap.size + 2) ((w.alloc zIns).alloc (.cells C 214)) w2) := hB
          clear hB
          have b31_12 := Pn.bz_31_12 n
          go_wp2_with (first
            | (go_at_call 160; refine (has_any _ _).mono ?_; rintro e w' ⟨rfl, rfl⟩)
            | (go_at_call 159; refine (bits_is _ _ _ _ (by omega) (by omega) (by decide) (by decide) (by decide)).mono ?_; rintro e w' ⟨rfl, rfl⟩)
            | (go_at_call 158; refine (power_is _ _ (by decide) (by decide)).mono ?_; rintro e w' ⟨rfl, rfl⟩)
            | (go_at_call 161; refine (signed_is _ _ _ (by omega) (by omega) (by decide) (by decide)).mono ?_; rintro e w' ⟨rfl, rfl⟩))
          refine (encode_any ⟨k + 1, (Pn.bitz n 11 7), 0, 0, (Pn.signd (Pn.bitz n 31 12) 20)⟩ _).mono ?_
          rintro e w3 ⟨rfl, hB3⟩
          generalize hE : Pn.enc ⟨k + 1, (Pn.bitz n 11 7), 0, 0, (Pn.signd (Pn.bitz n 31 12) 20)⟩ = E at *
          have HE : Hid (Pn.enc ⟨k + 1, (Pn.bitz n 11 7), 0, 0, (Pn.signd (Pn.bitz n 31 12) 20)⟩ = E) := hE
          clear hE
          obtain ⟨⟨x0, x1, x2, x3, x4⟩, hB4⟩ := decAfter HB.out (by omega) hB3
          clear hB3 HB q1
          obtain ⟨z0, zf, _, hz3⟩ := decRel_cells hB4
          have HB4 : Hid (Below (w.heap.size + 2) ((w.alloc zIns).alloc (.cells C 214)) w3) := hB4
          clear hB4
          have y0 := z0 0 (by omega)
          have y1 := z0 1 (by omega)
          have y2 := z0 2 (by omega)
          have y3 := z0 3 (by omega)
          have y4 := z0 4 (by omega)
          clear z0
          by_cases e2 : (E.2 == 0) = true
          · by_cases e1 : (E.1 == n) = true
            · go_wp2_with fail
              refine bodyPost_ret (v := .tuple #[(Pn.Ins.mk (k + 1) (Pn.bitz n 11 7) 0 0 (Pn.signd (Pn.bitz n 31 12) 20)).val, .int .i64 0]) (by simp [results, Tryz.results93, go_sem, y0, y1, y2, y3, y4, Pn.Ins.val]) rfl ⟨?_, ?_⟩
              · rw [Pn.dec_hit n0 n1 hlt hno (Pn.decHit_yes hop' HI.out HE.out e2 e1), HI.out]
              · exact below5 (((Below.refl _ _).alloc (Nat.le_refl _) _).alloc (by simp) _ |>.trans (HB4.out.mono (by omega))) _ _ _ _ _
            · have e1' : (E.1 == n) = false := by simpa using e1
              go_wp2_with fail
              go_roundw
              case rel => exact ⟨k + 1, by omega, by go_num, Pn.no_succ hno (Pn.decHit_no HI.out HE.out (.inr e1')), HB4.out⟩
              case measure => simp [intOf]; omega
          · have e2' : (E.2 == 0) = false := by simpa using e2
            go_wp2_with fail
            go_roundw
            case rel => exact ⟨k + 1, by omega, by go_num, Pn.no_succ hno (Pn.decHit_no HI.out HE.out (.inl e2')), HB4.out⟩
            case measure => simp [intOf]; omega
        · have HI : Hid (Pn.decIns k n = ⟨k + 1, (Pn.bitz n 11 7), 0, 0, (Pn.signd (Pn.bitz n 31 31 * 1048576 + Pn.bitz n 19 12 * 4096 + Pn.bitz n 20 20 * 2048 + Pn.bitz n 30 21 * 2) 21)⟩) := Pn.decIns_J k n hkd
          rw [hkd] at HD
          have hh : Pn.has 74 = (true, false, false) := rfl
          clear hkd
          obtain ⟨q1, hb1, hb2, hB⟩ := HD
          have HB : Hid (Below (w.heap.size + 2) ((w.alloc zIns).alloc (.cells C 214)) w2) := hB
          clear hB
          have b31_31 := Pn.bz_31_31 n
          have b19_12 := Pn.bz_19_12 n
          have b20_20 := Pn.bz_20_20 n
          have b30_21 := Pn.bz_30_21 n
          have p5 : Pn.pow2 5 = 32 := rfl
          have p11 : Pn.pow2 11 = 2048 := rfl
          have p12 : Pn.pow2 12 = 4096 := rfl
          have p20 : Pn.pow2 20 = 1048576 := rfl
          go_wp2_with (first
            | (go_at_call 160; refine (has_any _ _).mono ?_; rintro e w' ⟨rfl, rfl⟩)
            | (go_at_call 159; refine (bits_is _ _ _ _ (by omega) (by omega) (by decide) (by decide) (by decide)).mono ?_; rintro e w' ⟨rfl, rfl⟩)
            | (go_at_call 158; refine (power_is _ _ (by decide) (by decide)).mono ?_; rintro e w' ⟨rfl, rfl⟩)
            | (go_at_call 161; refine (signed_is _ _ _ (by omega) (by omega) (by decide) (by decide)).mono ?_; rintro e w' ⟨rfl, rfl⟩))
          refine (encode_any ⟨k + 1, (Pn.bitz n 11 7), 0, 0, (Pn.signd (Pn.bitz n 31 31 * 1048576 + Pn.bitz n 19 12 * 4096 + Pn.bitz n 20 20 * 2048 + Pn.bitz n 30 21 * 2) 21)⟩ _).mono ?_
          rintro e w3 ⟨rfl, hB3⟩
          generalize hE : Pn.enc ⟨k + 1, (Pn.bitz n 11 7), 0, 0, (Pn.signd (Pn.bitz n 31 31 * 1048576 + Pn.bitz n 19 12 * 4096 + Pn.bitz n 20 20 * 2048 + Pn.bitz n 30 21 * 2) 21)⟩ = E at *
          have HE : Hid (Pn.enc ⟨k + 1, (Pn.bitz n 11 7), 0, 0, (Pn.signd (Pn.bitz n 31 31 * 1048576 + Pn.bitz n 19 12 * 4096 + Pn.bitz n 20 20 * 2048 + Pn.bitz n 30 21 * 2) 21)⟩ = E) := hE
          clear hE
          obtain ⟨⟨x0, x1, x2, x3, x4⟩, hB4⟩ := decAfter HB.out (by omega) hB3
          clear hB3 HB q1
          obtain ⟨z0, zf, _, hz3⟩ := decRel_cells hB4
          have HB4 : Hid (Below (w.heap.size + 2) ((w.alloc zIns).alloc (.cells C 214)) w3) := hB4
          clear hB4
          have y0 := z0 0 (by omega)
          have y1 := z0 1 (by omega)
          have y2 := z0 2 (by omega)
          have y3 := z0 3 (by omega)
          have y4 := z0 4 (by omega)
          clear z0
          by_cases e2 : (E.2 == 0) = true
          · by_cases e1 : (E.1 == n) = true
            · go_wp2_with fail
              refine bodyPost_ret (v := .tuple #[(Pn.Ins.mk (k + 1) (Pn.bitz n 11 7) 0 0 (Pn.signd (Pn.bitz n 31 31 * 1048576 + Pn.bitz n 19 12 * 4096 + Pn.bitz n 20 20 * 2048 + Pn.bitz n 30 21 * 2) 21)).val, .int .i64 0]) (by simp [results, Tryz.results93, go_sem, y0, y1, y2, y3, y4, Pn.Ins.val]) rfl ⟨?_, ?_⟩
              · rw [Pn.dec_hit n0 n1 hlt hno (Pn.decHit_yes hop' HI.out HE.out e2 e1), HI.out]
              · exact below5 (((Below.refl _ _).alloc (Nat.le_refl _) _).alloc (by simp) _ |>.trans (HB4.out.mono (by omega))) _ _ _ _ _
            · have e1' : (E.1 == n) = false := by simpa using e1
              go_wp2_with fail
              go_roundw
              case rel => exact ⟨k + 1, by omega, by go_num, Pn.no_succ hno (Pn.decHit_no HI.out HE.out (.inr e1')), HB4.out⟩
              case measure => simp [intOf]; omega
          · have e2' : (E.2 == 0) = false := by simpa using e2
            go_wp2_with fail
            go_roundw
            case rel => exact ⟨k + 1, by omega, by go_num, Pn.no_succ hno (Pn.decHit_no HI.out HE.out (.inl e2')), HB4.out⟩
            case measure => simp [intOf]; omega
        · have HI : Hid (Pn.decIns k n = ⟨k + 1, 0, 0, 0, 0⟩) := Pn.decIns_N k n hkd
          rw [hkd] at HD
          have hh : Pn.has 78 = (false, false, false) := rfl
          clear hkd
          obtain ⟨q1, hb1, hb2, hB⟩ := HD
          have HB : Hid (Below (w.heap.size + 2) ((w.alloc zIns).alloc (.cells C 214)) w2) := hB
          clear hB
          go_wp2_with (first
            | (go_at_call 160; refine (has_any _ _).mono ?_; rintro e w' ⟨rfl, rfl⟩)
            | (go_at_call 159; refine (bits_is _ _ _ _ (by omega) (by omega) (by decide) (by decide) (by decide)).mono ?_; rintro e w' ⟨rfl, rfl⟩)
            | (go_at_call 158; refine (power_is _ _ (by decide) (by decide)).mono ?_; rintro e w' ⟨rfl, rfl⟩)
            | (go_at_call 161; refine (signed_is _ _ _ (by omega) (by omega) (by decide) (by decide)).mono ?_; rintro e w' ⟨rfl, rfl⟩))
          refine (encode_any ⟨k + 1, 0, 0, 0, 0⟩ _).mono ?_
          rintro e w3 ⟨rfl, hB3⟩
          generalize hE : Pn.enc ⟨k + 1, 0, 0, 0, 0⟩ = E at *
          have HE : Hid (Pn.enc ⟨k + 1, 0, 0, 0, 0⟩ = E) := hE
          clear hE
          obtain ⟨⟨x0, x1, x2, x3, x4⟩, hB4⟩ := decAfter HB.out (by omega) hB3
          clear hB3 HB q1
          obtain ⟨z0, zf, _, hz3⟩ := decRel_cells hB4
          have HB4 : Hid (Below (w.heap.size + 2) ((w.alloc zIns).alloc (.cells C 214)) w3) := hB4
          clear hB4
          have y0 := z0 0 (by omega)
          have y1 := z0 1 (by omega)
          have y2 := z0 2 (by omega)
          have y3 := z0 3 (by omega)
          have y4 := z0 4 (by omega)
          clear z0
          by_cases e2 : (E.2 == 0) = true
          · by_cases e1 : (E.1 == n) = true
            · go_wp2_with fail
              refine bodyPost_ret (v := .tuple #[(Pn.Ins.mk (k + 1) 0 0 0 0).val, .int .i64 0]) (by simp [results, Tryz.results93, go_sem, y0, y1, y2, y3, y4, Pn.Ins.val]) rfl ⟨?_, ?_⟩
              · rw [Pn.dec_hit n0 n1 hlt hno (Pn.decHit_yes hop' HI.out HE.out e2 e1), HI.out]
              · exact below5 (((Below.refl _ _).alloc (Nat.le_refl _) _).alloc (by simp) _ |>.trans (HB4.out.mono (by omega))) _ _ _ _ _
            · have e1' : (E.1 == n) = false := by simpa using e1
              go_wp2_with fail
              go_roundw
              case rel => exact ⟨k + 1, by omega, by go_num, Pn.no_succ hno (Pn.decHit_no HI.out HE.out (.inr e1')), HB4.out⟩
              case measure => simp [intOf]; omega
          · have e2' : (E.2 == 0) = false := by simpa using e2
            go_wp2_with fail
            go_roundw
            case rel => exact ⟨k + 1, by omega, by go_num, Pn.no_succ hno (Pn.decHit_no HI.out HE.out (.inl e2')), HB4.out⟩
            case measure => simp [intOf]; omega
    · have y0 := z0 0 (by omega)
      have y1 := z0 1 (by omega)
      have y2 := z0 2 (by omega)
      have y3 := z0 3 (by omega)
      have y4 := z0 4 (by omega)
      have HB : Hid (Below (w.heap.size + 2) ((w.alloc zIns).alloc (.cells C 214)) wr) := hB
      have hk64 : k = 64 := by omega
      have HD : Hid (Pn.dec n = (⟨0, 0, 0, 0, 0⟩, 1)) := Pn.dec_none n0 n1 (fun j hj => hno.out j (by omega))
      clear hB tc z0 hk64
      go_wp2_with fail
      refine bodyPost_ret (v := .tuple #[(Pn.Ins.mk 0 0 0 0 0).val, .int .i64 1]) (by simp [results, Tryz.results93, go_sem, y0, y1, y2, y3, y4, Pn.Ins.val]) rfl ⟨by rw [HD.out], ?_⟩
      exact below5 (((Below.refl _ _).alloc (Nat.le_refl _) _).alloc (by simp) _ |>.trans (HB.out.mono (by omega))) _ _ _ _ _

end Go.Proofs.YtbmcofdodfcnnaaGreatDoor
