import Derived.Test.YtbmcofdodfcnnaaGreatDoorGLA
import Derived.Test.YtbmcofdodfcnnaaGreatDoorGAW
namespace Go.Proofs.YtbmcofdodfcnnaaGreatDoor
open Go.RowKit
def PsOut (ps : List Pn.Prt) (er : Int) (w : World) (e : Ending) (w' : World) : Prop :=
  ∃ ao n cp, e = .returned (.tuple #[.slice ao n cp, .int .i64 er]) ∧ w'.ownsRow w.heap.size 193 7 (.slice ao n cp) ps.length (ps.flatMap Pn.prtC) ∧ Below w.heap.size w w'
theorem psOut_nil {er : Int} {w w' : World} (hB : Below w.heap.size w w') : PsOut [] er w (.returned (.tuple #[.slice none 0 0, .int .i64 er])) w' :=
  ⟨_, _, _, rfl, World.ownsRow_nil _ _ _ _, hB⟩
theorem psOut_one {p : Pn.Prt} {er : Int} {w W : World} (hB : Below w.heap.size w W) : PsOut [p] er w (.returned (.tuple #[.slice (some ⟨W.heap.size, 0, none⟩) 1 1, .int .i64 er])) (W.alloc (.cells (Pn.prtC p).toArray 193)) :=
  ⟨_, _, _, rfl, by
    have := World.ownsRow_lit (base := w.heap.size) (e := 193) (size := 7) W (Pn.prtC p).toArray 1 hB.size (by unfold maxLen; omega) (by rfl)
    simpa using this, hB.alloc hB.size _⟩
set_option maxRecDepth 100000 in
set_option maxHeartbeats 4000000 in
theorem readShort_is (nm : ByteArray) (l : List Pn.Pc) (ao : Option Addr) (cp : Nat) (w : World) (hE : Env w) (hl : PcsAt ao l w.heap.size w) :
    Calls Tryz.prog 258 #[.string nm, .slice ao l.length cp] w fun e w' => PsOut (Pn.rshort nm l).1 (Pn.rshort nm l).2 w e w' := by
  have HR := hid (readPlain_is nm l ao cp w hE hl)
  clear hE hl
  unfold Pn.rshort
  generalize Pn.pplain nm l = X at *
  obtain ⟨⟨op, rd, rs1, rs2, imm⟩, er⟩ := X
  simp only
  have HS := hid (fun w' => short_is ⟨op, rd, rs1, rs2, imm⟩ w' reads_all)
  generalize Pn.shortP ⟨op, rd, rs1, rs2, imm⟩ = Y at *
  obtain ⟨h, sx⟩ := Y
  simp only
  unfold Pn.Ins.val at HR HS
  simp only at HR HS
  by_cases he : er = 0
  · subst he
    rw [if_pos rfl]
    by_cases hx : sx = 0
    · subst hx
      rw [if_pos rfl]
      go_enter Tryz.func258, Tryz.ntmps258
      go_wp2_with fail
      refine HR.out.mono ?_
      rintro e w1 ⟨rfl, hB1⟩
      have HB1 := hid hB1
      clear hB1
      go_wp2_with fail
      have HB2 := hid (HB1.out.alloc HB1.out.size (.cells #[.int .i64 op, .int .i64 rd, .int .i64 rs1, .int .i64 rs2, .int .i64 imm] 26))
      generalize w1.alloc _ = W at *
      refine (HS.out _).mono ?_
      rintro e w3 ⟨rfl, hB3⟩
      have HB3 := hid (HB2.out.trans (hB3.mono HB2.out.size))
      clear hB3
      go_wp2_with fail
      refine (bytes_is h 2 _ (by decide)).mono ?_
      rintro e w4 ⟨rfl, hB4⟩
      have HB4 := hid (HB3.out.trans (hB4.mono HB3.out.size))
      clear hB4
      go_wp2_with fail
      go_ret2
      exact psOut_one (p := ⟨Pn.bytN 2 h, Pn.zIns, []⟩) HB4.out
    · rw [if_neg hx]
      go_enter Tryz.func258, Tryz.ntmps258
      go_wp2_with fail
      refine HR.out.mono ?_
      rintro e w1 ⟨rfl, hB1⟩
      have HB1 := hid hB1
      clear hB1
      go_wp2_with fail
      have HB2 := hid (HB1.out.alloc HB1.out.size (.cells #[.int .i64 op, .int .i64 rd, .int .i64 rs1, .int .i64 rs2, .int .i64 imm] 26))
      generalize w1.alloc _ = W at *
      refine (HS.out _).mono ?_
      rintro e w3 ⟨rfl, hB3⟩
      have HB3 := hid (HB2.out.trans (hB3.mono HB2.out.size))
      clear hB3
      go_wp2_with fail
      go_ret2
      exact psOut_nil HB3.out
  · rw [if_neg he]
    go_enter Tryz.func258, Tryz.ntmps258
    go_wp2_with fail
    refine HR.out.mono ?_
    rintro e w1 ⟨rfl, hB1⟩
    have HB1 := hid hB1
    clear hB1
    go_wp2_with fail
    go_ret2
    exact psOut_nil (HB1.out.alloc HB1.out.size _)
theorem lett_i : ∀ r ∈ (ByteArray.mk #[105]).data.toList, Pn.Lett r := by
  intro r hr
  have : r = 105 := by simpa using hr
  subst this
  simp [Pn.Lett]
theorem rdata_none {size : Nat} {l : List Pn.Pc} (h : Pn.pshape [105] l Pn.zIns [] = none) : Pn.rdata size l = ([], 4) := by simp [Pn.rdata, h]
theorem rdata_no {size : Nat} {l : List Pn.Pc} {s : Pn.Ins × List UInt8} (h : Pn.pshape [105] l Pn.zIns [] = some s) (hn : s.1.imm < 0 ∨ 2 ^ (8 * size) ≤ s.1.imm) : Pn.rdata size l = ([], 5) := by simp [Pn.rdata, h, hn]
theorem rdata_yes {size : Nat} {l : List Pn.Pc} {s : Pn.Ins × List UInt8} (h : Pn.pshape [105] l Pn.zIns [] = some s) (hn : ¬ (s.1.imm < 0 ∨ 2 ^ (8 * size) ≤ s.1.imm)) : Pn.rdata size l = ([⟨Pn.bytN size s.1.imm, Pn.zIns, []⟩], 0) := by
  unfold Pn.rdata
  rw [h]
  simp only
  rw [if_neg hn]
set_option maxRecDepth 100000 in
set_option maxHeartbeats 4000000 in
theorem readData_is (size : Nat) (hsz : size = 1 ∨ size = 2 ∨ size = 4) (l : List Pn.Pc) (ao : Option Addr) (cp : Nat) (w : World) (hE : Env w) (hl : PcsAt ao l w.heap.size w) :
    Calls Tryz.prog 260 #[.int .i64 size, .slice ao l.length cp] w fun e w' => PsOut (Pn.rdata size l).1 (Pn.rdata size l).2 w e w' := by
  have HZ : Hid (CellsAt w.heap.size (Pn.partCells Pn.zIns []) (w.alloc (.cells #[.string ⟨#[]⟩, .int .i64 0, .int .i64 0, .int .i64 0, .int .i64 0, .int .i64 0, .string ⟨#[]⟩] 193))) := hid (CellsAt.new w (Pn.partCells Pn.zIns []) 193)
  have HB0 : Hid (Below w.heap.size w (w.alloc (.cells #[.string ⟨#[]⟩, .int .i64 0, .int .i64 0, .int .i64 0, .int .i64 0, .int .i64 0, .string ⟨#[]⟩] 193))) := hid ((Below.refl _ _).alloc (Nat.le_refl _) _)
  have HL : Hid (PcsAt ao l w.heap.size (w.alloc (.cells #[.string ⟨#[]⟩, .int .i64 0, .int .i64 0, .int .i64 0, .int .i64 0, .int .i64 0, .string ⟨#[]⟩] 193))) := hid (hl.move HB0.out _ (Nat.le_refl _))
  have HE := hid (hE.below HB0.out hE.1)
  have hng := hE.1
  have hw0 : w.heap.size < (w.alloc (.cells #[.string ⟨#[]⟩, .int .i64 0, .int .i64 0, .int .i64 0, .int .i64 0, .int .i64 0, .string ⟨#[]⟩] 193)).heap.size := by simp
  clear hE hl
  go_enter Tryz.func260, Tryz.ntmps260
  go_wp2_with fail
  generalize w.alloc _ = W at *
  refine (readShape_is ⟨#[105]⟩ lett_i (by decide) w.heap.size Pn.zIns [] l ao cp W HE.out (by omega) HZ.out HL.out).mono ?_
  rintro e w1 ⟨rfl, hK1, hS1⟩
  have e5 : (ByteArray.mk #[105]).data.toList = [105] := rfl
  rw [e5] at hS1 ⊢
  have HB1 := hid (hK1.below HB0.out (Nat.le_refl _) (fun _ h => by cases h) (Nat.le_refl _))
  cases hps : Pn.pshape [105] l Pn.zIns [] with
  | none =>
    have HV := hid (rdata_none (size := size) hps)
    simp only [Option.isSome]
    clear hK1 hS1
    go_wp2_with fail
    go_ret2
    rw [HV.out]
    exact psOut_nil HB1.out
  | some s =>
    obtain ⟨⟨op, rd, rs1, rs2, imm⟩, tg⟩ := s
    have hC := hS1 _ hps
    have p5 := hC.2.2 5 _ rfl
    simp only at p5
    simp only [Option.isSome]
    clear hK1 hS1 hC
    rcases hsz with rfl | rfl | rfl
    · have hp : (2:Int) ^ (8 * 1) = 256 := by decide
      by_cases h0 : imm < 0
      · have HV := hid (rdata_no (size := 1) hps (.inl h0))
        clear hps
        go_wp2_with fail
        go_ret2
        rw [HV.out]
        exact psOut_nil HB1.out
      · by_cases h1 : 256 ≤ imm
        · have HV := hid (rdata_no (size := 1) hps (.inr (by simp only; omega)))
          clear hps
          go_wp2_with fail
          go_ret2
          rw [HV.out]
          exact psOut_nil HB1.out
        · have HV := hid (rdata_yes (size := 1) hps (by simp only; omega))
          have h1' : imm < 256 := by omega
          have h0' : 0 ≤ imm := by omega
          clear hps
          go_wp2_with fail
          refine (bytes_is imm 1 _ (by decide)).mono ?_
          rintro e w4 ⟨rfl, hB4⟩
          have HB4 := hid (HB1.out.trans (hB4.mono HB1.out.size))
          clear hB4
          go_wp2_with fail
          go_ret2
          rw [HV.out]
          exact psOut_one (p := ⟨Pn.bytN 1 imm, Pn.zIns, []⟩) HB4.out
    · have hp : (2:Int) ^ (8 * 2) = 65536 := by decide
      by_cases h0 : imm < 0
      · have HV := hid (rdata_no (size := 2) hps (.inl h0))
        clear hps
        go_wp2_with fail
        go_ret2
        rw [HV.out]
        exact psOut_nil HB1.out
      · by_cases h1 : 65536 ≤ imm
        · have HV := hid (rdata_no (size := 2) hps (.inr (by simp only; omega)))
          clear hps
          go_wp2_with fail
          go_ret2
          rw [HV.out]
          exact psOut_nil HB1.out
        · have HV := hid (rdata_yes (size := 2) hps (by simp only; omega))
          have h1' : imm < 65536 := by omega
          have h0' : 0 ≤ imm := by omega
          clear hps
          go_wp2_with fail
          refine (bytes_is imm 2 _ (by decide)).mono ?_
          rintro e w4 ⟨rfl, hB4⟩
          have HB4 := hid (HB1.out.trans (hB4.mono HB1.out.size))
          clear hB4
          go_wp2_with fail
          go_ret2
          rw [HV.out]
          exact psOut_one (p := ⟨Pn.bytN 2 imm, Pn.zIns, []⟩) HB4.out
    · have hp : (2:Int) ^ (8 * 4) = 4294967296 := by decide
      by_cases h0 : imm < 0
      · have HV := hid (rdata_no (size := 4) hps (.inl h0))
        clear hps
        go_wp2_with fail
        go_ret2
        rw [HV.out]
        exact psOut_nil HB1.out
      · by_cases h1 : 4294967296 ≤ imm
        · have HV := hid (rdata_no (size := 4) hps (.inr (by simp only; omega)))
          clear hps
          go_wp2_with fail
          go_ret2
          rw [HV.out]
          exact psOut_nil HB1.out
        · have HV := hid (rdata_yes (size := 4) hps (by simp only; omega))
          have h1' : imm < 4294967296 := by omega
          have h0' : 0 ≤ imm := by omega
          clear hps
          go_wp2_with fail
          refine (bytes_is imm 4 _ (by decide)).mono ?_
          rintro e w4 ⟨rfl, hB4⟩
          have HB4 := hid (HB1.out.trans (hB4.mono HB1.out.size))
          clear hB4
          go_wp2_with fail
          go_ret2
          rw [HV.out]
          exact psOut_one (p := ⟨Pn.bytN 4 imm, Pn.zIns, []⟩) HB4.out
end Go.Proofs.YtbmcofdodfcnnaaGreatDoor
namespace Pn
open Go
theorem low_split (n : Int) : ∃ H, n = lowI n + 4096 * H ∧ (n - lowI n) / 4096 = H ∧ (n - lowI n).tdiv 4096 = H ∧ -2048 ≤ lowI n ∧ lowI n ≤ 2047 := by
  refine ⟨(n + 2048) / 4096, ?_, ?_, ?_, ?_, ?_⟩ <;> unfold lowI
  · omega
  · omega
  · have e : n - ((n + 2048) % 4096 - 2048) = 4096 * ((n + 2048) / 4096) := by omega
    rw [e, Int.mul_tdiv_cancel_left _ (by decide)]
  · omega
  · omega
theorem low_and (n : Int) : Go.bits .and .i64 (n + 2048) 4095 = lowI n + 2048 := by
  have := andz_mask (n + 2048) 12 (by decide)
  have e : (2:Int) ^ 12 = 4096 := by decide
  rw [e] at this
  unfold andz at this
  rw [show (4096 : Int) - 1 = 4095 from rfl] at this
  rw [this]
  unfold lowI
  omega
end Pn
namespace Go.Proofs.YtbmcofdodfcnnaaGreatDoor
open Go.RowKit
theorem infoLPart : (Tryz.prog.info? 193).map (fun i => (i.zero, i.size, i.bytes)) = some (some (.agg #[.string ⟨#[]⟩, .int .i64 0, .int .i64 0, .int .i64 0, .int .i64 0, .int .i64 0, .string ⟨#[]⟩]), 7, 72) := by kernel_rfl
theorem own_one (w : World) (p : Pn.Prt) : (w.alloc (.cells (Pn.prtC p).toArray 193)).ownsRow w.heap.size 193 7 (.slice (some ⟨w.heap.size, 0, none⟩) 1 1) 1 (Pn.prtC p) := by
  have := World.ownsRow_lit (base := w.heap.size) (e := 193) (size := 7) w (Pn.prtC p).toArray 1 (Nat.le_refl _) (by unfold maxLen; omega) (by rfl)
  simpa using this
theorem new_cells (w : World) (vs : List Value) (t : TypeId) : ∀ j u, vs[j]? = some u → (w.alloc (.cells vs.toArray t)).cell? ((⟨w.heap.size, 0, none⟩ : Addr).add j) = some u := by
  intro j u hj
  have hadd : (⟨w.heap.size, 0, none⟩ : Addr).add j = ⟨w.heap.size, j, none⟩ := by unfold Addr.add; split <;> simp_all
  rw [hadd]
  exact (CellsAt.new w vs t).2.2 j u hj
set_option maxRecDepth 100000 in
set_option maxHeartbeats 4000000 in
theorem load_is (r n : Int) (w : World) (h0 : -2147483648 ≤ n) (h1 : n ≤ 2147483647) :
    Calls Tryz.prog 275 #[.int .i64 r, .int .i64 n] w fun e w' => ∃ ao m cp, e = .returned (.slice ao m cp) ∧ w'.ownsRow w.heap.size 193 7 (.slice ao m cp) (Pn.loadP r n).length ((Pn.loadP r n).flatMap Pn.prtC) ∧ Below w.heap.size w w' := by
  obtain ⟨i0, hi, hz0, hz1, hz2⟩ := info_parts infoLPart
  obtain ⟨H, hn, hh, ht, l0, l1⟩ := Pn.low_split n
  have ha := Pn.low_and n
  have HV : Hid (Pn.loadP r n = if Pn.lowI n = n then [⟨[], ⟨29, r, 0, 0, n⟩, []⟩] else ⟨[], ⟨60, r, 0, 0, if H = 524288 then -524288 else H⟩, []⟩ :: (if Pn.lowI n = 0 then [] else [⟨[], ⟨38, r, r, 0, Pn.lowI n⟩, []⟩])) := hid (by unfold Pn.loadP Pn.highI; rw [hh])
  clear hh
  generalize Pn.lowI n = L at *
  have HN := hid hn
  clear hn
  by_cases hLn : L = n
  · rw [if_pos hLn] at HV
    have hLb : (L == n) = true := by simpa using hLn
    have HLN := hid hLn
    clear hLn
    go_enter Tryz.func275, Tryz.ntmps275
    go_wp2_with fail
    go_ret
    refine ⟨_, _, _, rfl, ?_, (Below.refl _ _).alloc (Nat.le_refl _) _⟩
    rw [HV.out]
    exact own_one w ⟨[], ⟨29, r, 0, 0, n⟩, []⟩
  · rw [if_neg hLn] at HV
    have hLb : (L == n) = false := by simpa using hLn
    by_cases hH : H = 524288
    · subst hH
      rw [if_pos rfl] at HV
      by_cases hL0 : L = 0
      · rw [if_pos hL0] at HV
        have hL0b : (L != 0) = false := by simpa using hL0
        have HL0 := hid hL0
        clear hL0
        go_enter Tryz.func275, Tryz.ntmps275
        go_wp2_with fail
        go_ret
        refine ⟨_, _, _, rfl, ?_, (Below.refl _ _).alloc (Nat.le_refl _) _⟩
        rw [HV.out]
        exact own_one w ⟨[], ⟨60, r, 0, 0, -524288⟩, []⟩
      · have hL0b : (L != 0) = true := by simpa using hL0
        rw [if_neg hL0] at HV
        have HO := hid (own_one w ⟨[], ⟨60, r, 0, 0, -524288⟩, []⟩)
        unfold Pn.prtC at HO
        simp only at HO
        go_enter Tryz.func275, Tryz.ntmps275
        go_wp2_with (at_builtin; refine wpList_append_own _ rfl _ _ 253 rfl w.heap.size 193 i0 _ 7 72 Tryz.underlying253 hi hz0 hz1 hz2 rfl (by decide) _ _ _ rfl (HO.out.alloc _) ⟨w.heap.size + 1, 0, none⟩ 1 1 (Pn.prtC ⟨[], ⟨38, r, r, 0, L⟩, []⟩) rfl rfl ?c1 ?c2 ?c3 ?c4 ?c5 ?_)
        case c1 => have := new_cells (w.alloc (.cells (Pn.prtC ⟨[], ⟨60, r, 0, 0, -524288⟩, []⟩).toArray 193)) (Pn.prtC ⟨[], ⟨38, r, r, 0, L⟩, []⟩) 193; rw [World.size_alloc] at this; exact this
        case c2 => intro u hu; simp [Pn.prtC] at hu; rcases hu with rfl | rfl | rfl | rfl | rfl | rfl | rfl <;> rfl
        case c3 => unfold maxLen; omega
        case c4 => omega
        case c5 => simp; omega
        intro v' w1 hown' hgrow _
        have HB1 : Hid (Below w.heap.size w w1) := hid ((((Below.refl _ _).alloc (Nat.le_refl _) _).alloc (by simp) _).grown hgrow (by simp; omega) (fun j hj => by have := (HO.out.lt j hj).1; omega))
        have HO1 := hid hown'
        obtain ⟨ao, m, cp, rfl⟩ : ∃ ao m cp, v' = .slice ao m cp := by
          obtain ⟨ao, m, cp, e, _⟩ := own_slice hown'
          exact ⟨ao, m, cp, e⟩
        clear hown' hgrow HO
        go_wp2_with fail
        go_ret
        refine ⟨_, _, _, rfl, ?_, HB1.out⟩
        rw [HV.out]
        exact HO1.out
    · rw [if_neg hH] at HV
      have hHb : (H == 524288) = false := by simpa using hH
      have hH0 : -524288 ≤ H := by have := HN.out; omega
      have hH1 : H ≤ 524288 := by have := HN.out; omega
      by_cases hL0 : L = 0
      · rw [if_pos hL0] at HV
        have hL0b : (L != 0) = false := by simpa using hL0
        have HL0 := hid hL0
        clear hL0
        go_enter Tryz.func275, Tryz.ntmps275
        go_wp2_with fail
        go_ret
        refine ⟨_, _, _, rfl, ?_, (Below.refl _ _).alloc (Nat.le_refl _) _⟩
        rw [HV.out]
        exact own_one w ⟨[], ⟨60, r, 0, 0, H⟩, []⟩
      · have hL0b : (L != 0) = true := by simpa using hL0
        rw [if_neg hL0] at HV
        have HO := hid (own_one w ⟨[], ⟨60, r, 0, 0, H⟩, []⟩)
        unfold Pn.prtC at HO
        simp only at HO
        go_enter Tryz.func275, Tryz.ntmps275
        go_wp2_with (at_builtin; refine wpList_append_own _ rfl _ _ 253 rfl w.heap.size 193 i0 _ 7 72 Tryz.underlying253 hi hz0 hz1 hz2 rfl (by decide) _ _ _ rfl (HO.out.alloc _) ⟨w.heap.size + 1, 0, none⟩ 1 1 (Pn.prtC ⟨[], ⟨38, r, r, 0, L⟩, []⟩) rfl rfl ?c1 ?c2 ?c3 ?c4 ?c5 ?_)
        case c1 => have := new_cells (w.alloc (.cells (Pn.prtC ⟨[], ⟨60, r, 0, 0, H⟩, []⟩).toArray 193)) (Pn.prtC ⟨[], ⟨38, r, r, 0, L⟩, []⟩) 193; rw [World.size_alloc] at this; exact this
        case c2 => intro u hu; simp [Pn.prtC] at hu; rcases hu with rfl | rfl | rfl | rfl | rfl | rfl | rfl <;> rfl
        case c3 => unfold maxLen; omega
        case c4 => omega
        case c5 => simp; omega
        intro v' w1 hown' hgrow _
        have HB1 : Hid (Below w.heap.size w w1) := hid ((((Below.refl _ _).alloc (Nat.le_refl _) _).alloc (by simp) _).grown hgrow (by simp; omega) (fun j hj => by have := (HO.out.lt j hj).1; omega))
        have HO1 := hid hown'
        obtain ⟨ao, m, cp, rfl⟩ : ∃ ao m cp, v' = .slice ao m cp := by
          obtain ⟨ao, m, cp, e, _⟩ := own_slice hown'
          exact ⟨ao, m, cp, e⟩
        clear hown' hgrow HO
        go_wp2_with fail
        go_ret
        refine ⟨_, _, _, rfl, ?_, HB1.out⟩
        rw [HV.out]
        exact HO1.out
end Go.Proofs.YtbmcofdodfcnnaaGreatDoor
namespace Go.Proofs.YtbmcofdodfcnnaaGreatDoor
open Go.RowKit
theorem lett_di : ∀ r ∈ (ByteArray.mk #[100, 44, 105]).data.toList, Pn.Lett r := by
  intro r hr
  have : r = 100 ∨ r = 44 ∨ r = 105 := by simpa using hr
  rcases this with rfl | rfl | rfl <;> simp [Pn.Lett]
theorem rload_none {l : List Pn.Pc} (h : Pn.pshape [100, 44, 105] l Pn.zIns [] = none) : Pn.rload l = ([], 4) := by simp [Pn.rload, h]
theorem rload_no {l : List Pn.Pc} {s : Pn.Ins × List UInt8} (h : Pn.pshape [100, 44, 105] l Pn.zIns [] = some s) (hn : s.1.imm < -2147483648 ∨ 2147483647 < s.1.imm) : Pn.rload l = ([], 5) := by simp [Pn.rload, h, hn]
theorem rload_yes {l : List Pn.Pc} {s : Pn.Ins × List UInt8} (h : Pn.pshape [100, 44, 105] l Pn.zIns [] = some s) (hn : ¬ (s.1.imm < -2147483648 ∨ 2147483647 < s.1.imm)) : Pn.rload l = (Pn.loadP s.1.rd s.1.imm, 0) := by
  unfold Pn.rload
  rw [h]
  simp only
  rw [if_neg hn]
set_option maxRecDepth 100000 in
set_option maxHeartbeats 4000000 in
theorem readLoad_is (l : List Pn.Pc) (ao : Option Addr) (cp : Nat) (w : World) (hE : Env w) (hl : PcsAt ao l w.heap.size w) :
    Calls Tryz.prog 261 #[.slice ao l.length cp] w fun e w' => PsOut (Pn.rload l).1 (Pn.rload l).2 w e w' := by
  have HZ : Hid (CellsAt w.heap.size (Pn.partCells Pn.zIns []) (w.alloc (.cells #[.string ⟨#[]⟩, .int .i64 0, .int .i64 0, .int .i64 0, .int .i64 0, .int .i64 0, .string ⟨#[]⟩] 193))) := hid (CellsAt.new w (Pn.partCells Pn.zIns []) 193)
  have HB0 : Hid (Below w.heap.size w (w.alloc (.cells #[.string ⟨#[]⟩, .int .i64 0, .int .i64 0, .int .i64 0, .int .i64 0, .int .i64 0, .string ⟨#[]⟩] 193))) := hid ((Below.refl _ _).alloc (Nat.le_refl _) _)
  have HL : Hid (PcsAt ao l w.heap.size (w.alloc (.cells #[.string ⟨#[]⟩, .int .i64 0, .int .i64 0, .int .i64 0, .int .i64 0, .int .i64 0, .string ⟨#[]⟩] 193))) := hid (hl.move HB0.out _ (Nat.le_refl _))
  have HE := hid (hE.below HB0.out hE.1)
  have hng := hE.1
  clear hE hl
  go_enter Tryz.func261, Tryz.ntmps261
  go_wp2_with fail
  generalize w.alloc _ = W at *
  refine (readShape_is ⟨#[100, 44, 105]⟩ lett_di (by decide) w.heap.size Pn.zIns [] l ao cp W HE.out (by omega) HZ.out HL.out).mono ?_
  rintro e w1 ⟨rfl, hK1, hS1⟩
  have e5 : (ByteArray.mk #[100, 44, 105]).data.toList = [100, 44, 105] := rfl
  rw [e5] at hS1 ⊢
  have HB1 := hid (hK1.below HB0.out (Nat.le_refl _) (fun _ h => by cases h) (Nat.le_refl _))
  cases hps : Pn.pshape [100, 44, 105] l Pn.zIns [] with
  | none =>
    have HV := hid (rload_none hps)
    simp only [Option.isSome]
    clear hK1 hS1
    go_wp2_with fail
    go_ret2
    rw [HV.out]
    exact psOut_nil HB1.out
  | some s =>
    obtain ⟨⟨op, rd, rs1, rs2, imm⟩, tg⟩ := s
    have hC := hS1 _ hps
    have p2 := hC.2.2 2 _ rfl
    have p5 := hC.2.2 5 _ rfl
    simp only at p2 p5
    simp only [Option.isSome]
    clear hK1 hS1 hC
    by_cases h0 : imm < -2147483648
    · have HV := hid (rload_no hps (.inl h0))
      clear hps
      go_wp2_with fail
      go_ret2
      rw [HV.out]
      exact psOut_nil HB1.out
    · by_cases h1 : 2147483647 < imm
      · have HV := hid (rload_no hps (.inr h1))
        clear hps
        go_wp2_with fail
        go_ret2
        rw [HV.out]
        exact psOut_nil HB1.out
      · have HV := hid (rload_yes hps (by simp only; omega))
        simp only at HV
        have h1' : imm ≤ 2147483647 := by omega
        have h0' : -2147483648 ≤ imm := by omega
        clear hps
        go_wp2_with fail
        refine (load_is rd imm _ h0' h1').mono ?_
        rintro e w4 ⟨ao4, m4, cp4, rfl, hO4, hB4⟩
        have HO4 := hid (own_base hO4 HB1.out.size)
        have HB4 := hid (HB1.out.trans (hB4.mono HB1.out.size))
        clear hB4 hO4
        go_wp2_with fail
        go_ret2
        rw [HV.out]
        exact ⟨_, _, _, rfl, HO4.out, HB4.out⟩
theorem dsz_cases (l : List UInt8) : Pn.dsz l = 1 ∨ Pn.dsz l = 2 ∨ Pn.dsz l = 4 ∨ Pn.dsz l = 0 := by
  unfold Pn.dsz
  split
  · exact .inl rfl
  · split
    · exact .inr (.inl rfl)
    · split
      · exact .inr (.inr (.inl rfl))
      · exact .inr (.inr (.inr rfl))
set_option maxRecDepth 100000 in
set_option maxHeartbeats 4000000 in
theorem readStatement_is (nm : ByteArray) (l : List Pn.Pc) (ao : Option Addr) (cp : Nat) (w : World) (hE : Env w) (hl : PcsAt ao l w.heap.size w) :
    Calls Tryz.prog 227 #[.string nm, .slice ao l.length cp] w fun e w' => PsOut (Pn.rst nm l).1 (Pn.rst nm l).2 w e w' := by
  have HSH := hid (fun q => readShort_is q l ao cp w hE hl)
  have HDA := hid (fun s h => readData_is s h l ao cp w hE hl)
  have HLO := hid (readLoad_is l ao cp w hE hl)
  have HRI := hid (readInstruction_all nm l ao cp w hE hl)
  clear hE hl
  by_cases hc : Lib.hasPrefix nm.data.toList [99, 46] = true
  · have HV : Hid (Pn.rst nm l = Pn.rshort ⟨(Lib.trimPrefix nm.data.toList [99, 46]).toArray⟩ l) := hid (by unfold Pn.rst; rw [if_pos hc])
    have hc' : Lib.hasPrefix nm.data.toList (ByteArray.mk #[99, 46]).data.toList = true := hc
    go_enter Tryz.func227, Tryz.ntmps227
    go_wp2_with fail
    refine (Tryz.strings_CutPrefix nm ⟨#[99, 46]⟩ _).mono ?_
    rintro e w1 ⟨rfl, rfl⟩
    rw [hc']
    go_wp2_with fail
    refine (HSH.out _).mono ?_
    rintro e w2 ⟨ao2, m2, cp2, rfl, hO, hB⟩
    have HO := hid hO
    have HB := hid hB
    clear hO hB
    go_wp2_with fail
    go_ret2
    rw [HV.out]
    exact ⟨_, _, _, rfl, HO.out, HB.out⟩
  · have hcf : Lib.hasPrefix nm.data.toList [99, 46] = false := by simpa using hc
    have hc' : Lib.hasPrefix nm.data.toList (ByteArray.mk #[99, 46]).data.toList = false := hcf
    have HV0 : Hid (Pn.rst nm l = if Pn.dsz nm.data.toList ≠ 0 then Pn.rdata (Pn.dsz nm.data.toList).toNat l else if nm.data.toList = [108, 105] then Pn.rload l else if (Pn.rinN nm l).2 = 0 then ([(Pn.rinN nm l).1], 0) else ([], (Pn.rinN nm l).2)) := hid (by unfold Pn.rst; rw [if_neg hc])
    rcases dsz_cases nm.data.toList with hd | hd | hd | hd
    · have HV : Hid (Pn.rst nm l = Pn.rdata 1 l) := hid (by rw [HV0.out, hd]; rfl)
      clear HV0
      go_enter Tryz.func227, Tryz.ntmps227
      go_wp2_with fail
      refine (Tryz.strings_CutPrefix nm ⟨#[99, 46]⟩ _).mono ?_
      rintro e w1 ⟨rfl, rfl⟩
      rw [hc']
      go_wp2_with fail
      refine (sizeOfData_is nm _).mono ?_
      rintro e w1 ⟨rfl, rfl⟩
      rw [hd]
      go_wp2_with fail
      refine (HDA.out 1 (by omega)).mono ?_
      rintro e w2 ⟨ao2, m2, cp2, rfl, hO, hB⟩
      have HO := hid hO
      have HB := hid hB
      clear hO hB
      go_wp2_with fail
      go_ret2
      rw [HV.out]
      exact ⟨_, _, _, rfl, HO.out, HB.out⟩
    · have HV : Hid (Pn.rst nm l = Pn.rdata 2 l) := hid (by rw [HV0.out, hd]; rfl)
      clear HV0
      go_enter Tryz.func227, Tryz.ntmps227
      go_wp2_with fail
      refine (Tryz.strings_CutPrefix nm ⟨#[99, 46]⟩ _).mono ?_
      rintro e w1 ⟨rfl, rfl⟩
      rw [hc']
      go_wp2_with fail
      refine (sizeOfData_is nm _).mono ?_
      rintro e w1 ⟨rfl, rfl⟩
      rw [hd]
      go_wp2_with fail
      refine (HDA.out 2 (by omega)).mono ?_
      rintro e w2 ⟨ao2, m2, cp2, rfl, hO, hB⟩
      have HO := hid hO
      have HB := hid hB
      clear hO hB
      go_wp2_with fail
      go_ret2
      rw [HV.out]
      exact ⟨_, _, _, rfl, HO.out, HB.out⟩
    · have HV : Hid (Pn.rst nm l = Pn.rdata 4 l) := hid (by rw [HV0.out, hd]; rfl)
      clear HV0
      go_enter Tryz.func227, Tryz.ntmps227
      go_wp2_with fail
      refine (Tryz.strings_CutPrefix nm ⟨#[99, 46]⟩ _).mono ?_
      rintro e w1 ⟨rfl, rfl⟩
      rw [hc']
      go_wp2_with fail
      refine (sizeOfData_is nm _).mono ?_
      rintro e w1 ⟨rfl, rfl⟩
      rw [hd]
      go_wp2_with fail
      refine (HDA.out 4 (by omega)).mono ?_
      rintro e w2 ⟨ao2, m2, cp2, rfl, hO, hB⟩
      have HO := hid hO
      have HB := hid hB
      clear hO hB
      go_wp2_with fail
      go_ret2
      rw [HV.out]
      exact ⟨_, _, _, rfl, HO.out, HB.out⟩
    · have HV1 : Hid (Pn.rst nm l = if nm.data.toList = [108, 105] then Pn.rload l else if (Pn.rinN nm l).2 = 0 then ([(Pn.rinN nm l).1], 0) else ([], (Pn.rinN nm l).2)) := hid (by rw [HV0.out, hd]; rfl)
      clear HV0
      by_cases hli : nm.data.toList = [108, 105]
      · have HV : Hid (Pn.rst nm l = Pn.rload l) := hid (by rw [HV1.out, if_pos hli])
        have hlb : (nm.toList == [108, 105]) = true := by rw [ByteArray.toList_eq]; simpa using hli
        clear HV1 hli
        go_enter Tryz.func227, Tryz.ntmps227
        go_wp2_with fail
        refine (Tryz.strings_CutPrefix nm ⟨#[99, 46]⟩ _).mono ?_
        rintro e w1 ⟨rfl, rfl⟩
        rw [hc']
        go_wp2_with fail
        refine (sizeOfData_is nm _).mono ?_
        rintro e w1 ⟨rfl, rfl⟩
        rw [hd]
        go_wp2_with fail
        refine HLO.out.mono ?_
        rintro e w2 ⟨ao2, m2, cp2, rfl, hO, hB⟩
        have HO := hid hO
        have HB := hid hB
        clear hO hB
        go_wp2_with fail
        go_ret2
        rw [HV.out]
        exact ⟨_, _, _, rfl, HO.out, HB.out⟩
      · have HV1 : Hid (Pn.rst nm l = if (Pn.rinN nm l).2 = 0 then ([(Pn.rinN nm l).1], 0) else ([], (Pn.rinN nm l).2)) := hid (by rw [HV1.out, if_neg hli])
        have hlb : (nm.toList == [108, 105]) = false := by rw [ByteArray.toList_eq]; simpa using hli
        clear hli
        generalize Pn.rinN nm l = X at *
        obtain ⟨⟨data, ⟨op, rd, rs1, rs2, imm⟩, tg⟩, er⟩ := X
        unfold Pn.prtC at HRI
        simp only at HRI HV1
        by_cases her : er = 0
        · subst her
          have HV : Hid (Pn.rst nm l = ([⟨data, ⟨op, rd, rs1, rs2, imm⟩, tg⟩], 0)) := hid (by rw [HV1.out, if_pos rfl])
          clear HV1
          go_enter Tryz.func227, Tryz.ntmps227
          go_wp2_with fail
          refine (Tryz.strings_CutPrefix nm ⟨#[99, 46]⟩ _).mono ?_
          rintro e w1 ⟨rfl, rfl⟩
          rw [hc']
          go_wp2_with fail
          refine (sizeOfData_is nm _).mono ?_
          rintro e w1 ⟨rfl, rfl⟩
          rw [hd]
          go_wp2_with fail
          refine HRI.out.mono ?_
          rintro e w2 ⟨rfl, hB2⟩
          have HB2 := hid (hB2.alloc hB2.size (.cells #[.string ⟨data.toArray⟩, .int .i64 op, .int .i64 rd, .int .i64 rs1, .int .i64 rs2, .int .i64 imm, .string ⟨tg.toArray⟩] 193))
          clear hB2
          go_wp2_with fail
          go_ret2
          rw [HV.out]
          have hp := psOut_one (p := ⟨data, ⟨op, rd, rs1, rs2, imm⟩, tg⟩) (er := 0) HB2.out
          rw [World.size_alloc] at hp
          exact hp
        · have HV : Hid (Pn.rst nm l = ([], er)) := hid (by rw [HV1.out, if_neg her])
          clear HV1
          go_enter Tryz.func227, Tryz.ntmps227
          go_wp2_with fail
          refine (Tryz.strings_CutPrefix nm ⟨#[99, 46]⟩ _).mono ?_
          rintro e w1 ⟨rfl, rfl⟩
          rw [hc']
          go_wp2_with fail
          refine (sizeOfData_is nm _).mono ?_
          rintro e w1 ⟨rfl, rfl⟩
          rw [hd]
          go_wp2_with fail
          refine HRI.out.mono ?_
          rintro e w2 ⟨rfl, hB2⟩
          have HB2 := hid (hB2.alloc hB2.size (.cells #[.string ⟨data.toArray⟩, .int .i64 op, .int .i64 rd, .int .i64 rs1, .int .i64 rs2, .int .i64 imm, .string ⟨tg.toArray⟩] 193))
          clear hB2
          go_wp2_with fail
          go_ret2
          rw [HV.out]
          exact psOut_nil HB2.out
end Go.Proofs.YtbmcofdodfcnnaaGreatDoor
