import Derived.Test.YtbmcofdodfcnnaaGreatDoorGV
import Derived.Test.YtbmcofdodfcnnaaGreatDoorGK
import Derived.Test.YtbmcofdodfcnnaaGreatDoorGP
import Derived.Lib.QuietBelow
namespace Go.Proofs.YtbmcofdodfcnnaaGreatDoor
open Go.RowKit
theorem iright_out (op rd rs1 rs2 imm : Int) (w : World) (h : ¬ (1 ≤ op ∧ op ≤ 64)) :
    Calls Tryz.prog 58 #[.agg #[.int .i64 op, .int .i64 rd, .int .i64 rs1, .int .i64 rs2, .int .i64 imm]] w fun e w' => e = .returned (.tuple #[Pn.irow0V, .bool false]) ∧ Below w.heap.size w w' := by
  have HN := (show Hid _ from Pn.byOp_none op h)
  clear h
  go_enter Tryz.func58, Tryz.ntmps58
  go_wp2_with fail
  refine (numbered_is _ _).mono ?_
  rintro e w1 ⟨rfl, hB1⟩
  rw [HN.out]
  have hz : CellsAt (w.heap.size + 1) Pn.irow0 w1 := (by have := CellsAt.new (w.alloc (.cells #[.int .i64 op, .int .i64 rd, .int .i64 rs1, .int .i64 rs2, .int .i64 imm] 26)) Pn.irow0 100; rw [World.size_alloc] at this; exact this.next hB1)
  obtain ⟨hz1, yf, yc⟩ := hz
  have y0 := yc 0 _ rfl
  have y1 := yc 1 _ rfl
  have y2 := yc 2 _ rfl
  have y3 := yc 3 _ rfl
  have y4 := yc 4 _ rfl
  have y5 := yc 5 _ rfl
  have HB1 : Hid (Below w.heap.size w w1) := (((Below.refl _ _).alloc (Nat.le_refl _) _).alloc (by simp) _).trans (hB1.mono (by simp; omega))
  clear hB1 yc
  unfold findV Pn.irow0V Pn.irow0
  go_wp2_with fail
  refine bodyPost_ret (v := .tuple #[Pn.irow0V, .bool false]) (by simp [results, Tryz.results58, go_sem, y0, y1, y2, y3, y4, y5, hz1, Pn.irow0V, Pn.irow0]) rfl ⟨rfl, ?_⟩
  exact (below6' HB1.out _ _ _ _ _ _).alloc (by have := HB1.out.size; simp [World.setCell]; omega) _
set_option maxRecDepth 100000 in
set_option maxHeartbeats 4000000 in
theorem iright_in (k : Nat) (rd rs1 rs2 imm : Int) (w : World) (hk : k < 64) :
    Calls Tryz.prog 58 #[.agg #[.int .i64 (k + 1), .int .i64 rd, .int .i64 rs1, .int .i64 rs2, .int .i64 imm]] w fun e w' => e = .returned (Pn.rightV ⟨k + 1, rd, rs1, rs2, imm⟩) ∧ Below w.heap.size w w' := by
  have HF := (show Hid _ from Pn.byOp_find k hk)
  have hwr : IntKind.i64.wrap (k:Int) = (k:Int) := IntWalk.i64_in _ (by omega)
  go_enter Tryz.func58, Tryz.ntmps58
  go_wp2_with fail
  refine (numbered_is _ _).mono ?_
  rintro e w1 ⟨rfl, hB1⟩
  rw [HF.out]
  have HI1 := (show Hid _ from ((CellsAt.new w [.int .i64 (k + 1), .int .i64 rd, .int .i64 rs1, .int .i64 rs2, .int .i64 imm] 26).alloc (.cells Pn.irow0.toArray 100)).next hB1)
  have HZ1 : Hid (CellsAt (w.heap.size + 1) Pn.irow0 w1) := (by have := CellsAt.new (w.alloc (.cells #[.int .i64 (k + 1), .int .i64 rd, .int .i64 rs1, .int .i64 rs2, .int .i64 imm] 26)) Pn.irow0 100; rw [World.size_alloc] at this; exact this.next hB1)
  have HB1 : Hid (Below w.heap.size w w1) := (((Below.refl _ _).alloc (Nat.le_refl _) _).alloc (by simp) _).trans (hB1.mono (by simp; omega))
  clear hB1
  unfold findV Pn.irowV Pn.irow
  go_wp2_with fail
  refine (layoutOf_is (Pn.row k).kind (Pn.kinds_ok k hk) _).mono ?_
  rintro e w2 ⟨sl, rfl, hP, hB2⟩
  obtain ⟨ao, cap, rfl, _⟩ := hP
  have HR2 := (show Hid _ from (CellsAt.new w1 (Pn.irow k) 100).next hB2)
  obtain ⟨hi1, _, ic⟩ := CellsAt.next (CellsAt.alloc HI1.out _) hB2
  obtain ⟨hz1, yf, yc⟩ := CellsAt.next (CellsAt.alloc HZ1.out _) hB2
  obtain ⟨hr1, _, rc⟩ := HR2.out
  have i1 := ic 1 _ rfl
  have i2 := ic 2 _ rfl
  have i3 := ic 3 _ rfl
  have i4 := ic 4 _ rfl
  have y0 := yc 0 _ rfl
  have y1 := yc 1 _ rfl
  have y2 := yc 2 _ rfl
  have y3 := yc 3 _ rfl
  have y4 := yc 4 _ rfl
  have y5 := yc 5 _ rfl
  have r0 := rc 0 _ rfl
  have r1 := rc 1 _ rfl
  have r2 := rc 2 _ rfl
  have r3 := rc 3 _ rfl
  have r4 := rc 4 _ rfl
  have r5 := rc 5 _ rfl
  have HB2 : Hid (Below w.heap.size w w2) := (HB1.out.alloc HB1.out.size _).trans (hB2.mono (by have := HB1.out.size; simp; omega))
  have hs1 := HB1.out.size
  clear hB2 ic yc rc HB1
  unfold Pn.layCells
  go_wp2_with (go_at_call 110; refine (rightRegister_is _ _ _).mono ?_; rintro e w' ⟨rfl, rfl⟩)
  · have HQ : Hid (Pn.register (Pn.has (Pn.row k).kind).1 rd = true ∧ Pn.register (Pn.has (Pn.row k).kind).2.1 rs1 = true ∧ Pn.register (Pn.has (Pn.row k).kind).2.2 rs2 = true) := ⟨by assumption, by assumption, by assumption⟩
    refine (takesImm_any _ _ _ _ _ _ _ _ _ _ _ _ _).mono ?_
    rintro e w3 ⟨rfl, hB3⟩
    have hz3 : w.heap.size + 1 < w3.heap.size := by have := hB3.size; simp at this; omega
    have yf3 : ∀ q, w3.frozen? ⟨w.heap.size + 1, q, none⟩ = false := fun q => (hB3.frozen (p := ⟨w.heap.size + 1, q, none⟩) (by simp; omega)).trans ((Below.frozen ((Below.refl w2.heap.size w2).alloc (Nat.le_refl _) _) (p := ⟨w.heap.size + 1, q, none⟩) hz1).trans (yf q))
    have up : ∀ b j v, b < w2.heap.size → w2.cell? ⟨b, j, none⟩ = some v → w3.cell? ⟨b, j, none⟩ = some v := fun b j v hb h => (hB3.cell (p := ⟨b, j, none⟩) (by simp; omega)).trans ((Below.cell ((Below.refl w2.heap.size w2).alloc (Nat.le_refl _) _) (p := ⟨b, j, none⟩) hb).trans h)
    have Y0 := up _ _ _ hz1 y0
    have Y1 := up _ _ _ hz1 y1
    have Y2 := up _ _ _ hz1 y2
    have Y3 := up _ _ _ hz1 y3
    have Y4 := up _ _ _ hz1 y4
    have Y5 := up _ _ _ hz1 y5
    have R0 := up _ _ _ hr1 r0
    have R1 := up _ _ _ hr1 r1
    have R2 := up _ _ _ hr1 r2
    have R3 := up _ _ _ hr1 r3
    have R4 := up _ _ _ hr1 r4
    have R5 := up _ _ _ hr1 r5
    have HB3 : Hid (Below w.heap.size w w3) := (HB2.out.alloc HB2.out.size _).trans (hB3.mono (by have := HB2.out.size; simp; omega))
    clear hB3 up y0 y1 y2 y3 y4 y5 r0 r1 r2 r3 r4 r5 i1 i2 i3 i4 HB2 yf HI1 HZ1 HR2 hz1 hi1 hr1
    by_cases ht : Pn.tk (Pn.evenK (Pn.row k).kind) (Pn.least (Pn.row k).kind) (Pn.most (Pn.row k).kind) imm = true
    · have HV := (show Hid _ from Pn.rightV_yes (k := k) (rd := rd) (rs1 := rs1) (rs2 := rs2) (imm := imm) (by
        rw [Pn.right_succ _ _ _ _ _ hk]; have := Pn.takes_is (Pn.kinds_ok k hk) imm; unfold Pn.takes at this; rw [← this, HQ.out.1, HQ.out.2.1, HQ.out.2.2, ht]; rfl))
      rw [ht]
      clear ht
      go_wp2_with fail
      refine bodyPost_ret (v := .tuple #[Pn.irowV k, .bool true]) (by simp [results, Tryz.results58, go_sem, Y0, Y1, Y2, Y3, Y4, Y5, Pn.irowV, Pn.irow]) rfl ⟨by rw [HV.out], ?_⟩
      exact below6' HB3.out _ _ _ _ _ _
    · have ht' : Pn.tk (Pn.evenK (Pn.row k).kind) (Pn.least (Pn.row k).kind) (Pn.most (Pn.row k).kind) imm = false := by simpa using ht
      have HV := (show Hid _ from Pn.rightV_no (i := ⟨k + 1, rd, rs1, rs2, imm⟩) (by
        rw [Pn.right_succ _ _ _ _ _ hk]; have := Pn.takes_is (Pn.kinds_ok k hk) imm; unfold Pn.takes at this; rw [← this, ht']; simp))
      rw [ht']
      clear ht ht'
      go_wp2_with fail
      refine bodyPost_ret (v := .tuple #[Pn.irow0V, .bool false]) (by simp [results, Tryz.results58, go_sem, Y0, Y1, Y2, Y3, Y4, Y5, Pn.irow0V, Pn.irow0]) rfl ⟨by rw [HV.out], ?_⟩
      exact below6' HB3.out _ _ _ _ _ _
  all_goals
    have HV := (show Hid _ from Pn.rightV_no (i := ⟨k + 1, rd, rs1, rs2, imm⟩) (by
      rw [Pn.right_succ _ _ _ _ _ hk]
      first
      | (refine Pn.and4b ?_ ?_ ?_ <;> assumption)
      | (refine Pn.and4c ?_ ?_ <;> assumption)
      | (refine Pn.and4d ?_ <;> assumption)))
    refine bodyPost_ret (v := .tuple #[Pn.irow0V, .bool false]) (by simp [results, Tryz.results58, go_sem, y0, y1, y2, y3, y4, y5, hz1, Pn.irow0V, Pn.irow0]) rfl ⟨by rw [HV.out], ?_⟩
    exact (below6' HB2.out _ _ _ _ _ _).alloc (by have := HB2.out.size; simp [World.setCell]; omega) _
theorem iright_any (i : Pn.Ins) (w : World) :
    Calls Tryz.prog 58 #[i.val] w fun e w' => e = .returned (Pn.rightV i) ∧ Below w.heap.size w w' := by
  obtain ⟨op, rd, rs1, rs2, imm⟩ := i
  unfold Pn.Ins.val
  simp only
  by_cases h : 1 ≤ op ∧ op ≤ 64
  · obtain ⟨k, rfl⟩ : ∃ k : Nat, op = k + 1 := ⟨(op - 1).toNat, by omega⟩
    exact iright_in k rd rs1 rs2 imm w (by omega)
  · rw [Pn.rightV_no (Pn.right_out _ h)]
    exact iright_out _ _ _ _ _ _ h
end Go.Proofs.YtbmcofdodfcnnaaGreatDoor
namespace Go.Proofs.YtbmcofdodfcnnaaGreatDoor
open Go.RowKit
def PcAt (ps : List (Int × Int × Int)) (ao : Option Addr) (cap : Nat) (w : World) : Prop :=
  ∀ j p, ps[j]? = some p → ∃ b, ao = some ⟨b, 0, none⟩ ∧ b < w.heap.size ∧ ps.length ≤ cap ∧
    w.cell? ⟨b, j * 3, none⟩ = some (.int .i64 p.1) ∧ w.cell? ⟨b, j * 3 + 1, none⟩ = some (.int .i64 p.2.1) ∧ w.cell? ⟨b, j * 3 + 2, none⟩ = some (.int .i64 p.2.2)
theorem PcAt.next {ps : List (Int × Int × Int)} {ao : Option Addr} {cap : Nat} {w w' : World} (h : PcAt ps ao cap w) (hB : Below w.heap.size w w') : PcAt ps ao cap w' := fun j p hj => by
  obtain ⟨b, h1, h2, h3, h4, h5, h6⟩ := h j p hj
  exact ⟨b, h1, by have := hB.size; omega, h3, (hB.cell (p := ⟨b, _, none⟩) h2).trans h4, (hB.cell (p := ⟨b, _, none⟩) h2).trans h5, (hB.cell (p := ⟨b, _, none⟩) h2).trans h6⟩
def WRel (f : List (Int × Int × Int) → Int) (ps : List (Int × Int × Int)) (ao : Option Addr) (cap : Nat) (L : List Value) (w : World) (acc i : Value) (wr : World) : Prop :=
  ∃ j : Nat, j ≤ ps.length ∧ i = .int .i64 j ∧ acc = .int .i64 (f (ps.take j)) ∧ PcAt ps ao cap wr ∧ Below w.heap.size w wr ∧ CellsAt w.heap.size L wr
set_option maxRecDepth 100000 in
set_option maxHeartbeats 4000000 in
theorem immIntoWord_any (a b c ev : Bool) (lo hi g fx n : Int) (ao : Option Addr) (ps : List (Int × Int × Int)) (cp : Nat) (w : World) (hp : Pn.PB ps) (hl : ps.length ≤ 4) (hP : PcAt ps ao cp w) :
    Calls Tryz.prog 61 #[.agg #[.bool a, .bool b, .bool c, .int .i64 lo, .int .i64 hi, .bool ev, .slice ao ps.length cp, .int .i64 g, .int .i64 fx], .int .i64 n] w fun e w' =>
      e = .returned (.int .i64 (Pn.immw n ps 0)) ∧ Below w.heap.size w w' := by
  have HP := (show Hid _ from hP)
  have HPB := (show Hid _ from hp)
  have hlen : (ps.length : Int) ≤ 4 := by omega
  clear hP hp
  go_enter Tryz.func61, Tryz.ntmps61
  go_wp2_with fail
  go_loopw [5, 11] (fun acc i wr => WRel (fun q => Pn.immw n q 0) ps ao cp [.bool a, .bool b, .bool c, .int .i64 lo, .int .i64 hi, .bool ev, .slice ao ps.length cp, .int .i64 g, .int .i64 fx] w acc i wr) (fun _ i _ => ps.length - (intOf i).toNat)
  case atStart => exact ⟨0, by omega, rfl, rfl, PcAt.next HP.out ((Below.refl _ _).alloc (Nat.le_refl _) _), (Below.refl _ _).alloc (Nat.le_refl _) _, CellsAt.new w _ _⟩
  case round =>
    obtain ⟨j, hj, rfl, rfl, hpc, hB, hL⟩ := hrel
    by_cases hlt : j < ps.length
    · have hlt2 : (j : Int) < ps.length := by omega
      obtain ⟨p, hpj⟩ : ∃ p, ps[j]? = some p := ⟨_, List.getElem?_eq_getElem hlt⟩
      obtain ⟨b, hb, hb1, hb2, c0, c1, c2⟩ := hpc j p hpj
      subst hb
      have hbb : b < wr.heap.size := hb1
      obtain ⟨q1, q2, q3, q4, q5, q6⟩ := HPB.out p (List.mem_of_getElem? hpj)
      have HM := (show Hid _ from Pn.immw_more (n := n) hpj)
      have HPC := (show Hid _ from hpc)
      have HB := (show Hid _ from hB)
      have HL := (show Hid _ from hL)
      obtain ⟨p1, p2, p3⟩ := p
      simp only at c0 c1 c2 q1 q2 q3 q4 q5 q6
      have z := Pn.bz_bd20 n p1 p2 q1 q3 q4
      have z2 := Pn.bz_shl _ p3 z.1 z.2 q6
      have HW := (show Hid _ from w64 (Pn.bitz n (p1 + p2 - 1) p1 * 2 ^ p3.toNat) (by omega))
      clear hpc hB hL hpj z2
      generalize hA : Pn.immw n (ps.take j) 0 = A at HM ⊢
      go_wp2_with fail
      go_quiet ((go_at_call 112; exact Calls.quiet_of (ibits_is _ _ _ _ (by omega) (by omega) (by omega) (by omega))))
      go_wp2_with fail
      go_roundw
      case rel =>
        have hBn : Below wr.heap.size wr ((wr.alloc (.cells #[.int .i64 p1, .int .i64 p2, .int .i64 p3] 175)).drewN nq) := below_drewN ((Below.refl _ _).alloc (Nat.le_refl _) _) _
        refine ⟨j + 1, by omega, by go_num, ?_, PcAt.next HPC.out hBn, Below.trans HB.out (hBn.mono HB.out.size), CellsAt.next HL.out hBn⟩
        show _ = Value.int IntKind.i64 (Pn.immw n (List.take (j + 1) ps) 0)
        rw [HM.out, HW.out]
        rfl
      case measure => simp [intOf]; omega
    · have hje : j = ps.length := by omega
      subst hje
      rw [List.take_length]
      have HB := (show Hid _ from hB)
      go_wp2_with fail
      go_ret
      exact ⟨rfl, HB.out⟩
set_option maxRecDepth 100000 in
set_option maxHeartbeats 4000000 in
theorem immOfWord_any (a b c ev : Bool) (lo hi g fx n : Int) (ao : Option Addr) (ps : List (Int × Int × Int)) (cp : Nat) (w : World) (hp : Pn.PB ps) (hl : ps.length ≤ 4) (hP : PcAt ps ao cp w) (a0 : 0 ≤ Pn.immo n ps 0) (a1 : Pn.immo n ps 0 ≤ 2097152) (lo0 : -1048576 ≤ lo) (lo1 : lo ≤ 0) :
    Calls Tryz.prog 71 #[.agg #[.bool a, .bool b, .bool c, .int .i64 lo, .int .i64 hi, .bool ev, .slice ao ps.length cp, .int .i64 g, .int .i64 fx], .int .i64 n] w fun e w' =>
      e = .returned (.int .i64 (Pn.immW lo hi (Pn.immo n ps 0))) ∧ Below w.heap.size w w' := by
  have HP := (show Hid _ from hP)
  have HPB := (show Hid _ from hp)
  have hlen : (ps.length : Int) ≤ 4 := by omega
  clear hP hp
  go_enter Tryz.func71, Tryz.ntmps71
  go_wp2_with fail
  go_loopw [5, 11] (fun acc i wr => WRel (fun q => Pn.immo n q 0) ps ao cp [.bool a, .bool b, .bool c, .int .i64 lo, .int .i64 hi, .bool ev, .slice ao ps.length cp, .int .i64 g, .int .i64 fx] w acc i wr) (fun _ i _ => ps.length - (intOf i).toNat)
  case atStart => exact ⟨0, by omega, rfl, rfl, PcAt.next HP.out ((Below.refl _ _).alloc (Nat.le_refl _) _), (Below.refl _ _).alloc (Nat.le_refl _) _, CellsAt.new w _ _⟩
  case round =>
    obtain ⟨j, hj, rfl, rfl, hpc, hB, hL⟩ := hrel
    by_cases hlt : j < ps.length
    · have hlt2 : (j : Int) < ps.length := by omega
      obtain ⟨p, hpj⟩ : ∃ p, ps[j]? = some p := ⟨_, List.getElem?_eq_getElem hlt⟩
      obtain ⟨b, hb, hb1, hb2, c0, c1, c2⟩ := hpc j p hpj
      subst hb
      have hbb : b < wr.heap.size := hb1
      obtain ⟨q1, q2, q3, q4, q5, q6⟩ := HPB.out p (List.mem_of_getElem? hpj)
      have HM := (show Hid _ from Pn.immo_more (n := n) hpj)
      have HPC := (show Hid _ from hpc)
      have HB := (show Hid _ from hB)
      have HL := (show Hid _ from hL)
      obtain ⟨p1, p2, p3⟩ := p
      simp only at c0 c1 c2 q1 q2 q3 q4 q5 q6
      have z := Pn.bz_bd20 n p3 p2 q5 q3 q4
      have z2 := Pn.bz_shl _ p1 z.1 z.2 (by omega)
      have HW := (show Hid _ from w64 (Pn.bitz n (p3 + p2 - 1) p3 * 2 ^ p1.toNat) (by omega))
      clear hpc hB hL hpj z2
      generalize hA : Pn.immo n (ps.take j) 0 = A at HM ⊢
      go_wp2_with fail
      go_quiet ((go_at_call 112; exact Calls.quiet_of (ibits_is _ _ _ _ (by omega) (by omega) (by omega) (by omega))))
      go_wp2_with fail
      go_roundw
      case rel =>
        have hBn : Below wr.heap.size wr ((wr.alloc (.cells #[.int .i64 p1, .int .i64 p2, .int .i64 p3] 175)).drewN nq) := below_drewN ((Below.refl _ _).alloc (Nat.le_refl _) _) _
        refine ⟨j + 1, by omega, by go_num, ?_, PcAt.next HPC.out hBn, Below.trans HB.out (hBn.mono HB.out.size), CellsAt.next HL.out hBn⟩
        show _ = Value.int IntKind.i64 (Pn.immo n (List.take (j + 1) ps) 0)
        rw [HM.out, HW.out]
        rfl
      case measure => simp [intOf]; omega
    · have hje : j = ps.length := by omega
      subst hje
      rw [List.take_length]
      have HB := (show Hid _ from hB)
      obtain ⟨hz, _, lc⟩ := hL
      have l3 := lc 3 _ rfl
      have l4 := lc 4 _ rfl
      clear lc hB
      generalize hA : Pn.immo n ps 0 = A at *
      by_cases hm : hi < A
      · go_wp2_with fail
        go_ret
        refine ⟨ret_int ?_, HB.out⟩
        unfold Pn.immW; rw [hA, if_pos hm]
      · go_wp2_with fail
        go_ret
        refine ⟨ret_int ?_, HB.out⟩
        unfold Pn.immW; first | rw [hA, if_neg (by omega)] | rw [if_neg (by omega)]
end Go.Proofs.YtbmcofdodfcnnaaGreatDoor
namespace Go.Proofs.YtbmcofdodfcnnaaGreatDoor
open Go.RowKit
theorem iencode_not (i : Pn.Ins) (w : World) (h : Pn.right i = false) :
    Calls Tryz.prog 35 #[i.val] w fun e w' => e = .returned (.tuple #[.int .i64 0, .int .i64 1]) ∧ Below w.heap.size w w' := by
  have HV := (show Hid _ from Pn.rightV_no h)
  clear h
  obtain ⟨op, rd, rs1, rs2, imm⟩ := i
  unfold Pn.Ins.val
  simp only
  go_enter Tryz.func35, Tryz.ntmps35
  go_wp2_with fail
  refine (iright_any ⟨op, rd, rs1, rs2, imm⟩ _).mono ?_
  rintro e w1 ⟨rfl, hB1⟩
  rw [HV.out]
  have HB1 : Hid (Below w.heap.size w w1) := ((Below.refl _ _).alloc (Nat.le_refl _) _).trans (hB1.mono (by simp))
  clear hB1
  unfold Pn.irow0V Pn.irow0
  go_wp2_with fail
  go_ret2
  exact ⟨rfl, HB1.out.alloc HB1.out.size _⟩
set_option maxRecDepth 100000 in
set_option maxHeartbeats 4000000 in
theorem iencode_in (k : Nat) (rd rs1 rs2 imm : Int) (w : World) (hk : k < 64) (hr : Pn.right ⟨k + 1, rd, rs1, rs2, imm⟩ = true) :
    Calls Tryz.prog 35 #[.agg #[.int .i64 (k + 1), .int .i64 rd, .int .i64 rs1, .int .i64 rs2, .int .i64 imm]] w fun e w' =>
      e = .returned (.tuple #[.int .i64 (Pn.encR k rd rs1 rs2 imm), .int .i64 0]) ∧ Below w.heap.size w w' := by
  have HV := (show Hid _ from Pn.rightV_yes hr)
  obtain ⟨⟨d0, d1⟩, ⟨s0, s1⟩, ⟨t0, t1⟩, m0, m1⟩ := Pn.right_bd hk hr
  have HE := (show Hid _ from Pn.enc_isa hk hr)
  clear hr
  go_enter Tryz.func35, Tryz.ntmps35
  go_wp2_with fail
  refine (iright_any ⟨k + 1, rd, rs1, rs2, imm⟩ _).mono ?_
  rintro e w1 ⟨rfl, hB1⟩
  rw [HV.out]
  have HI1 := (show Hid _ from (CellsAt.new w [.int .i64 (k + 1), .int .i64 rd, .int .i64 rs1, .int .i64 rs2, .int .i64 imm] 26).next hB1)
  have HB1 : Hid (Below w.heap.size w w1) := ((Below.refl _ _).alloc (Nat.le_refl _) _).trans (hB1.mono (by simp))
  clear hB1
  unfold Pn.irowV Pn.irow
  go_wp2_with fail
  refine (layoutOf_is (Pn.row k).kind (Pn.kinds_ok k hk) _).mono ?_
  rintro e w2 ⟨sl, rfl, hP, hB2⟩
  obtain ⟨ao, cap, rfl, hpc⟩ := hP
  obtain ⟨hr1, _, rc⟩ := (CellsAt.new w1 (Pn.irow k) 100).next hB2
  obtain ⟨hi1, _, ic⟩ := CellsAt.next (CellsAt.alloc HI1.out _) hB2
  have HP2 : Hid (PcAt (Pn.pieces (Pn.row k).kind) ao cap w2) := fun j p hj => by
    obtain ⟨b, h1, _, h3⟩ := hpc j p hj
    exact ⟨b, h1, h3⟩
  have i1 := ic 1 _ rfl
  have i2 := ic 2 _ rfl
  have i3 := ic 3 _ rfl
  have i4 := ic 4 _ rfl
  have r0 := rc 0 _ rfl
  have r1 := rc 1 _ rfl
  have r2 := rc 2 _ rfl
  have r3 := rc 3 _ rfl
  have r4 := rc 4 _ rfl
  have r5 := rc 5 _ rfl
  have HB2 : Hid (Below w.heap.size w w2) := (HB1.out.alloc HB1.out.size _).trans (hB2.mono (by have := HB1.out.size; simp; omega))
  clear hB2 ic rc HB1 HI1 hpc
  unfold Pn.layCells
  go_wp2_with fail
  have hW : Below w2.heap.size w2 (w2.alloc (.cells (Pn.layCells (Pn.row k).kind (.slice ao (Pn.pieces (Pn.row k).kind).length cap)).toArray 105)) := (Below.refl _ _).alloc (Nat.le_refl _) _
  have up : ∀ b j v, b < w2.heap.size → w2.cell? ⟨b, j, none⟩ = some v → ∀ d os, (Go.Sort.grow (redrawn (w2.alloc (.cells (Pn.layCells (Pn.row k).kind (.slice ao (Pn.pieces (Pn.row k).kind).length cap)).toArray 105)) d) os).cell? ⟨b, j, none⟩ = some v :=
    fun b j v hb h d os => cell_regrown ((hW.cell (p := ⟨b, j, none⟩) hb).trans h) d os
  have R0 := up _ _ _ hr1 r0
  have R1 := up _ _ _ hr1 r1
  have R2 := up _ _ _ hr1 r2
  have R3 := up _ _ _ hr1 r3
  have R4 := up _ _ _ hr1 r4
  have R5 := up _ _ _ hr1 r5
  have I4 := up _ _ _ hi1 i4
  obtain ⟨hl1, _, lc⟩ := CellsAt.new w2 (Pn.layCells (Pn.row k).kind (.slice ao (Pn.pieces (Pn.row k).kind).length cap)) 105
  have L0 := cell_regrown (lc 0 _ rfl)
  have L1 := cell_regrown (lc 1 _ rfl)
  have L2 := cell_regrown (lc 2 _ rfl)
  have L3 := cell_regrown (lc 3 _ rfl)
  have L4 := cell_regrown (lc 4 _ rfl)
  have L5 := cell_regrown (lc 5 _ rfl)
  have L6 := cell_regrown (lc 6 _ rfl)
  have L7 := cell_regrown (lc 7 _ rfl)
  have L8 := cell_regrown (lc 8 _ rfl)
  have HPW := (show Hid _ from PcAt.next HP2.out hW)
  have HBW := (show Hid _ from Below.alloc HB2.out HB2.out.size (.cells (Pn.layCells (Pn.row k).kind (.slice ao (Pn.pieces (Pn.row k).kind).length cap)).toArray 105))
  clear lc up hW r0 r1 r2 r3 r4 r5 i1 i2 i3 i4
  unfold Pn.layCells at L0 L1 L2 L3 L4 L5 L6 L7 L8 R0 R1 R2 R3 R4 R5 I4 HPW HBW
  generalize w2.alloc _ = W at L0 L1 L2 L3 L4 L5 L6 L7 L8 R0 R1 R2 R3 R4 R5 I4 HPW HBW hl1 ⊢
  obtain ⟨f0, f1, f2, f3, f4, f5, f6⟩ := Pn.row_bd k hk
  have HPB := (show Hid _ from Pn.pb_kinds (Pn.kinds_ok k hk))
  have hln : (Pn.pieces (Pn.row k).kind).length ≤ 4 := Pn.pieces_len _
  have hgp : (Pn.gpos (Pn.row k).kind : Int) ≤ 40 := Pn.gpos_le _
  refine wp_region_quiet_below (by kernel_rfl) (by kernel_rfl) ?_
  repeat (quiet_step (first
    | (go_at_call 60; exact Calls.regrown_of (fixedPart_any _ _ _ _ _ _ _ _ _ _ _ _ _ _ _ _ _ _ (by omega) (by omega) (by omega) (by omega) (by omega) (by omega)))
    | (go_at_call 61; exact Calls.regrown_of (immIntoWord_any _ _ _ _ _ _ _ _ _ _ _ _ _ HPB.out hln (PcAt.next HPW.out (below_regrown _ _ _))))))
  refine wpQuiet_nil ?_
  intro _ hw'
  obtain ⟨⟨dq, osq⟩, hw''⟩ := hw'
  subst hw''
  go_wp2_with fail
  go_ret2
  refine ⟨?_, Below.trans HBW.out ((below_regrown W dq osq).mono HBW.out.size)⟩
  rw [← HE.out]
  rfl
theorem iencode_any (i : Pn.Ins) (w : World) :
    Calls Tryz.prog 35 #[i.val] w fun e w' => e = .returned (.tuple #[.int .i64 (Pn.enc i).1, .int .i64 (Pn.enc i).2]) ∧ Below w.heap.size w w' := by
  by_cases h : Pn.right i = true
  · obtain ⟨op, rd, rs1, rs2, imm⟩ := i
    have hop : 1 ≤ op ∧ op ≤ 64 := by
      apply Classical.byContradiction; intro hn
      rw [Pn.right_out _ hn] at h; cases h
    obtain ⟨k, rfl⟩ : ∃ k : Nat, op = k + 1 := ⟨(op - 1).toNat, by omega⟩
    have hk : k < 64 := by omega
    rw [Pn.enc_yes h]
    exact iencode_in k rd rs1 rs2 imm w hk h
  · have h' : Pn.right i = false := by simpa using h
    rw [Pn.enc_not h']
    exact iencode_not i w h'
theorem pencode_any (i : Pn.Ins) (w : World) :
    Calls Tryz.prog 14 #[i.val] w fun e w' => e = .returned (.tuple #[.int .i64 (Pn.enc i).1, .int .i64 (Pn.enc i).2]) ∧ Below w.heap.size w w' := by
  obtain ⟨op, rd, rs1, rs2, imm⟩ := i
  unfold Pn.Ins.val
  simp only
  go_enter Tryz.func14, Tryz.ntmps14
  go_wp2_with fail
  refine (iencode_any ⟨op, rd, rs1, rs2, imm⟩ _).mono ?_
  rintro e w1 ⟨rfl, hB1⟩
  have HB1 : Hid (Below w.heap.size w w1) := ((Below.refl _ _).alloc (Nat.le_refl _) _).trans (hB1.mono (by simp))
  clear hB1
  go_wp2_with fail
  go_ret2
  exact ⟨rfl, HB1.out⟩
end Go.Proofs.YtbmcofdodfcnnaaGreatDoor
namespace Go.Proofs.YtbmcofdodfcnnaaGreatDoor
open Go.RowKit
theorem registerOfWord_is (n at' : Int) (t : Bool) (w : World) (a0 : 0 ≤ at') (a1 : at' ≤ 40) :
    Calls Tryz.prog 70 #[.int .i64 n, .int .i64 at', .bool t] w fun e w' => e = .returned (.int .i64 (if t then Pn.bitz n (at' + 5 - 1) at' else 0)) ∧ ∃ k, w' = w.drewN k := by
  cases t
  · go_enter Tryz.func70, Tryz.ntmps70
    go_wp2_with fail
    go_ret
    exact ⟨rfl, 0, rfl⟩
  · go_enter Tryz.func70, Tryz.ntmps70
    go_wp2_with fail
    refine (ibits_is _ _ _ _ a0 a1 (by decide) (by decide)).mono ?_
    rintro e w1 ⟨rfl, k, rfl⟩
    go_wp2_with fail
    go_ret
    exact ⟨rfl, k, rfl⟩
set_option maxRecDepth 100000 in
set_option maxHeartbeats 4000000 in
theorem fits_is (k : Nat) (n : Int) (w : World) (hk : k < 64) :
    Calls Tryz.prog 69 #[.agg (Pn.irow k).toArray, .int .i64 n] w fun e w' => e = .returned (.bool (Pn.fitsW k n)) ∧ Below w.heap.size w w' := by
  unfold Pn.irow
  by_cases ho : (Pn.row k).opc = Pn.andz n 127
  · have h1 : ((Pn.row k).opc != bits BinOp.and IntKind.i64 n 127) = false := by
      have : Pn.andz n 127 = bits BinOp.and IntKind.i64 n 127 := rfl
      rw [← this]; simpa using ho
    have HF : Hid (Pn.fitsW k n = (bits BinOp.and IntKind.i64 n (Pn.fixm (Pn.row k).kind) == Pn.fixw (Pn.row k).opc (Pn.row k).f (Pn.row k).g (2 ^ Pn.gpos (Pn.row k).kind))) := by
      show Pn.fitsW k n = _
      unfold Pn.fitsW
      rw [decide_eq_true ho, Bool.true_and, Bool.beq_eq_decide_eq]
      rfl
    clear ho
    go_enter Tryz.func69, Tryz.ntmps69
    go_wp2_with fail
    refine (layoutOf_is (Pn.row k).kind (Pn.kinds_ok k hk) _).mono ?_
    rintro e w2 ⟨sl, rfl, hP, hB2⟩
    obtain ⟨ao, cap, rfl, _⟩ := hP
    obtain ⟨hr1, _, rc⟩ := (CellsAt.new w (Pn.irow k) 100).next hB2
    have HB2 : Hid (Below w.heap.size w w2) := ((Below.refl _ _).alloc (Nat.le_refl _) _).trans (hB2.mono (by simp))
    clear hB2
    unfold Pn.layCells
    go_wp2_with fail
    have hW : Below w2.heap.size w2 (w2.alloc (.cells (Pn.layCells (Pn.row k).kind (.slice ao (Pn.pieces (Pn.row k).kind).length cap)).toArray 105)) := (Below.refl _ _).alloc (Nat.le_refl _) _
    have up : ∀ b j v, b < w2.heap.size → w2.cell? ⟨b, j, none⟩ = some v → ∀ d os, (Go.Sort.grow (redrawn (w2.alloc (.cells (Pn.layCells (Pn.row k).kind (.slice ao (Pn.pieces (Pn.row k).kind).length cap)).toArray 105)) d) os).cell? ⟨b, j, none⟩ = some v :=
      fun b j v hb h d os => cell_regrown ((hW.cell (p := ⟨b, j, none⟩) hb).trans h) d os
    have R0 := up _ _ _ hr1 (rc 0 _ rfl)
    have R1 := up _ _ _ hr1 (rc 1 _ rfl)
    have R2 := up _ _ _ hr1 (rc 2 _ rfl)
    have R3 := up _ _ _ hr1 (rc 3 _ rfl)
    have R4 := up _ _ _ hr1 (rc 4 _ rfl)
    have R5 := up _ _ _ hr1 (rc 5 _ rfl)
    obtain ⟨hl1, _, lc⟩ := CellsAt.new w2 (Pn.layCells (Pn.row k).kind (.slice ao (Pn.pieces (Pn.row k).kind).length cap)) 105
    have L0 := cell_regrown (lc 0 _ rfl)
    have L1 := cell_regrown (lc 1 _ rfl)
    have L2 := cell_regrown (lc 2 _ rfl)
    have L3 := cell_regrown (lc 3 _ rfl)
    have L4 := cell_regrown (lc 4 _ rfl)
    have L5 := cell_regrown (lc 5 _ rfl)
    have L6 := cell_regrown (lc 6 _ rfl)
    have L7 := cell_regrown (lc 7 _ rfl)
    have L8 := cell_regrown (lc 8 _ rfl)
    have HBW := (show Hid _ from Below.alloc HB2.out HB2.out.size (.cells (Pn.layCells (Pn.row k).kind (.slice ao (Pn.pieces (Pn.row k).kind).length cap)).toArray 105))
    clear lc up hW rc
    unfold Pn.layCells at L0 L1 L2 L3 L4 L5 L6 L7 L8 R0 R1 R2 R3 R4 R5 HBW
    generalize w2.alloc _ = W at L0 L1 L2 L3 L4 L5 L6 L7 L8 R0 R1 R2 R3 R4 R5 HBW hl1 ⊢
    obtain ⟨f0, f1, f2, f3, f4, f5, f6⟩ := Pn.row_bd k hk
    have hgp : (Pn.gpos (Pn.row k).kind : Int) ≤ 40 := Pn.gpos_le _
    refine wp_region_quiet_below (by kernel_rfl) (by kernel_rfl) ?_
    repeat (quiet_step (first
      | (go_at_call 60; exact Calls.regrown_of (fixedPart_any _ _ _ _ _ _ _ _ _ _ _ _ _ _ _ _ _ _ (by omega) (by omega) (by omega) (by omega) (by omega) (by omega)))))
    refine wpQuiet_nil ?_
    intro _ hw'
    obtain ⟨⟨dq, osq⟩, hw''⟩ := hw'
    subst hw''
    go_wp2_with fail
    go_ret
    refine ⟨?_, Below.trans HBW.out ((below_regrown W dq osq).mono HBW.out.size)⟩
    rw [HF.out]
    rfl
  · have h1 : ((Pn.row k).opc != bits BinOp.and IntKind.i64 n 127) = true := by
      have : Pn.andz n 127 = bits BinOp.and IntKind.i64 n 127 := rfl
      rw [← this]; simpa using ho
    have HF : Hid (Pn.fitsW k n = false) := by
      show Pn.fitsW k n = _
      unfold Pn.fitsW
      rw [decide_eq_false ho, Bool.false_and]
    clear ho
    go_enter Tryz.func69, Tryz.ntmps69
    go_wp2_with fail
    go_ret
    exact ⟨by rw [HF.out]; rfl, (Below.refl _ _).alloc (Nat.le_refl _) _⟩
theorem dec1_is (k b : Nat) (n : Int) (w : World) (hk : k < 64) (hb : b < w.heap.size) (hc : w.cell? ⟨b, 0, none⟩ = some (.int .i64 n)) :
    Calls Tryz.prog 68 #[.agg (Pn.irow k).toArray, .pointer (some ⟨b, 0, none⟩)] w fun e w' => e = .returned (.bool (Pn.fitsW k n)) ∧ Below w.heap.size w w' := by
  unfold Pn.irow
  go_enter Tryz.func68, Tryz.ntmps68
  go_wp2_with fail
  refine (fits_is k n _ hk).mono ?_
  rintro e w1 ⟨rfl, hB1⟩
  have HB1 : Hid (Below w.heap.size w w1) := ((Below.refl _ _).alloc (Nat.le_refl _) _).trans (hB1.mono (by simp))
  clear hB1
  go_wp2_with fail
  go_ret
  exact ⟨rfl, HB1.out⟩
end Go.Proofs.YtbmcofdodfcnnaaGreatDoor
