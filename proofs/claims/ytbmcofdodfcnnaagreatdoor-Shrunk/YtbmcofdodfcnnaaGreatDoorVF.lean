import Derived.Test.YtbmcofdodfcnnaaGreatDoorV10
import Derived.Test.YtbmcofdodfcnnaaGreatDoorGY
import Derived.Test.YtbmcofdodfcnnaaGreatDoorGQ
import Derived.Lib.OthersKept
namespace Go.Proofs.YtbmcofdodfcnnaaGreatDoor
open Go.RowKit

theorem showRegister_is (n : Int) (w : World) (h0 : -9223372036854775808 ≤ n) (h1 : n ≤ 9223372036854775807) (hE : Env w) :
    Calls Tryz.prog 113 #[.int .i64 n] w fun e w' => ∃ s : ByteArray, e = .returned (.string s) ∧ s.size ≤ 22 ∧ Hid (s.data.toList = Pn.regL n) ∧ Below w.heap.size w w' := by
  go_enter Tryz.func113, Tryz.ntmps113
  go_wp2_with fail
  refine (itoa_is n _ h0 h1 hE).mono ?_
  rintro e w1 ⟨s, rfl, hs, HS, hB⟩
  have HB := hide hB
  clear hB
  go_wp2_with fail
  go_ret
  refine ⟨_, rfl, ?_, ?_, HB.out⟩
  · have : (⟨#[120]⟩ ++ s : ByteArray).size = 1 + s.size := by rw [ByteArray.size_append]; rfl
    omega
  · show (⟨#[120]⟩ ++ s : ByteArray).data.toList = _
    rw [bdata, HS.out]; rfl

set_option maxHeartbeats 1000000 in
theorem showPart_is (op rd rs1 rs2 imm : Int) (r : UInt8) (hr : Pn.Lett r) (w : World) (hE : Env w) (d0 : 0 ≤ rd) (d1 : rd ≤ 31) (s0 : 0 ≤ rs1) (s1 : rs1 ≤ 31) (t0 : 0 ≤ rs2) (t1 : rs2 ≤ 31) (m0 : -1048576 ≤ imm) (m1 : imm ≤ 1048576) :
    Calls Tryz.prog 63 #[.agg #[.int .i64 op, .int .i64 rd, .int .i64 rs1, .int .i64 rs2, .int .i64 imm], .int .i32 r.toNat] w fun e w' =>
      ∃ s : ByteArray, e = .returned (.string s) ∧ s.size ≤ 22 ∧ Hid (s.data.toList = Pn.partL ⟨op, rd, rs1, rs2, imm⟩ r) ∧ Below w.heap.size w w' := by
  have hE1 := hide (fun o => hE.alloc o)
  rcases hr with rfl | rfl | rfl | rfl | rfl | rfl | rfl | rfl
  · show Calls Tryz.prog 63 #[_, .int .i32 100] w _
    go_enter Tryz.func63, Tryz.ntmps63
    go_wp2_with fail
    refine (showRegister_is rd _ (by omega) (by omega) (hE1.out _)).mono ?_
    rintro e w1 ⟨s, rfl, hs, HS, hB⟩
    have HB := hide (((Below.refl w.heap.size w).alloc (Nat.le_refl _) _).trans (hB.mono (by simp)))
    clear hB
    go_wp2_with fail
    go_ret
    exact ⟨s, rfl, hs, HS, HB.out⟩
  · show Calls Tryz.prog 63 #[_, .int .i32 115] w _
    go_enter Tryz.func63, Tryz.ntmps63
    go_wp2_with fail
    refine (showRegister_is rs1 _ (by omega) (by omega) (hE1.out _)).mono ?_
    rintro e w1 ⟨s, rfl, hs, HS, hB⟩
    have HB := hide (((Below.refl w.heap.size w).alloc (Nat.le_refl _) _).trans (hB.mono (by simp)))
    clear hB
    go_wp2_with fail
    go_ret
    exact ⟨s, rfl, hs, HS, HB.out⟩
  · show Calls Tryz.prog 63 #[_, .int .i32 116] w _
    go_enter Tryz.func63, Tryz.ntmps63
    go_wp2_with fail
    refine (showRegister_is rs2 _ (by omega) (by omega) (hE1.out _)).mono ?_
    rintro e w1 ⟨s, rfl, hs, HS, hB⟩
    have HB := hide (((Below.refl w.heap.size w).alloc (Nat.le_refl _) _).trans (hB.mono (by simp)))
    clear hB
    go_wp2_with fail
    go_ret
    exact ⟨s, rfl, hs, HS, HB.out⟩
  · show Calls Tryz.prog 63 #[_, .int .i32 105] w _
    go_enter Tryz.func63, Tryz.ntmps63
    go_wp2_with fail
    refine (itoa_is imm _ (by omega) (by omega) (hE1.out _)).mono ?_
    rintro e w1 ⟨s, rfl, hs, HS, hB⟩
    have HB := hide (((Below.refl w.heap.size w).alloc (Nat.le_refl _) _).trans (hB.mono (by simp)))
    clear hB
    go_wp2_with fail
    go_ret
    exact ⟨s, rfl, by omega, HS, HB.out⟩
  · show Calls Tryz.prog 63 #[_, .int .i32 112] w _
    go_enter Tryz.func63, Tryz.ntmps63
    go_wp2_with fail
    refine (itoa_is imm _ (by omega) (by omega) (hE1.out _)).mono ?_
    rintro e w1 ⟨s, rfl, hs, HS, hB⟩
    have HB := hide (((Below.refl w.heap.size w).alloc (Nat.le_refl _) _).trans (hB.mono (by simp)))
    clear hB
    go_wp2_with fail
    go_ret
    exact ⟨s, rfl, by omega, HS, HB.out⟩
  · show Calls Tryz.prog 63 #[_, .int .i32 44] w _
    go_enter Tryz.func63, Tryz.ntmps63
    go_wp2_with fail
    go_ret
    exact ⟨_, rfl, by decide, rfl, (Below.refl _ _).alloc (Nat.le_refl _) _⟩
  · show Calls Tryz.prog 63 #[_, .int .i32 40] w _
    go_enter Tryz.func63, Tryz.ntmps63
    go_wp2_with fail
    go_ret
    exact ⟨_, rfl, by decide, rfl, (Below.refl _ _).alloc (Nat.le_refl _) _⟩
  · show Calls Tryz.prog 63 #[_, .int .i32 41] w _
    go_enter Tryz.func63, Tryz.ntmps63
    go_wp2_with fail
    go_ret
    exact ⟨_, rfl, by decide, rfl, (Below.refl _ _).alloc (Nat.le_refl _) _⟩

set_option maxHeartbeats 1000000 in
theorem shapeOf_is (kd : Nat) (hk : Pn.kindsOk kd) (w : World) :
    Calls Tryz.prog 62 #[.int .i64 (Pn.kdI kd)] w fun e w' => e = .returned (.string ⟨(Pn.shp kd).toArray⟩) ∧ w' = w := by
  rcases hk with rfl | rfl | rfl | rfl | rfl | rfl | rfl | rfl | rfl | rfl
  all_goals
    simp only [Pn.kdI]
    go_enter Tryz.func62, Tryz.ntmps62
    go_wp2_with fail
    go_ret
    exact ⟨rfl, rfl⟩

end Go.Proofs.YtbmcofdodfcnnaaGreatDoor
namespace Go.Proofs.YtbmcofdodfcnnaaGreatDoor
open Go.RowKit

theorem lshow_not (i : Pn.Ins) (w : World) (h : Pn.right i = false) :
    Calls Tryz.prog 36 #[i.val] w fun e w' => e = .returned (.tuple #[.string ⟨#[]⟩, .int .i64 1]) ∧ Below w.heap.size w w' := by
  have HV := (show Hid _ from Pn.rightV_no h)
  clear h
  obtain ⟨op, rd, rs1, rs2, imm⟩ := i
  unfold Pn.Ins.val
  simp only
  go_enter Tryz.func36, Tryz.ntmps36
  go_wp2_with fail
  refine (iright_any ⟨op, rd, rs1, rs2, imm⟩ _).mono ?_
  rintro e w1 ⟨rfl, hB1⟩
  rw [HV.out]
  have HB1 : Hid (Below w.heap.size w w1) := ((Below.refl _ _).alloc (Nat.le_refl _) _).trans (hB1.mono (by simp))
  clear hB1
  unfold Pn.irow0V Pn.irow0
  go_wp2_with fail
  go_ret2
  exact ⟨rfl, HB1.out.alloc HB1.out.size _⟩

/-- Show's loop -/
def SRel (nm : List UInt8) (i : Pn.Ins) (S : ByteArray) (w : World) (it : Nat) (t : Value) (wr : World) : Prop :=
  ∃ (j : Nat) (T : ByteArray), j ≤ S.size ∧ t = .string T ∧ T.size ≤ 10 + 22 * j ∧ Hid (T.data.toList = nm ++ [32] ++ (S.data.toList.take j).flatMap (Pn.partL i)) ∧ wr.heap[it]? = some (.stringIter S j) ∧
    CellsAt w.heap.size [.int .i64 i.op, .int .i64 i.rd, .int .i64 i.rs1, .int .i64 i.rs2, .int .i64 i.imm] wr ∧ Env wr ∧ Below w.heap.size w wr ∧ w.heap.size < it
theorem iter_below (w : World) (k : Nat) (s : ByteArray) (pos : Nat) : Below k w (w.iterAt k s pos) := Lib.below_iterAt (Below.refl _ _) (Nat.le_refl _) s pos

set_option maxRecDepth 100000 in
set_option maxHeartbeats 8000000 in
theorem lshow_in (k : Nat) (rd rs1 rs2 imm : Int) (w : World) (hk : k < 64) (hr : Pn.right ⟨k + 1, rd, rs1, rs2, imm⟩ = true) (hE : Env w) :
    Calls Tryz.prog 36 #[.agg #[.int .i64 (k + 1), .int .i64 rd, .int .i64 rs1, .int .i64 rs2, .int .i64 imm]] w fun e w' =>
      e = .returned (.tuple #[.string ⟨(Pn.showL k rd rs1 rs2 imm).toArray⟩, .int .i64 0]) ∧ Below w.heap.size w w' := by
  have HV := (show Hid _ from Pn.rightV_yes hr)
  obtain ⟨⟨d0, d1⟩, ⟨s0, s1⟩, ⟨t0, t1⟩, m0, m1⟩ := Pn.right_bd hk hr
  clear hr
  have HKO := hide (Pn.kinds_ok k hk)
  go_enter Tryz.func36, Tryz.ntmps36
  go_wp2_with fail
  refine (iright_any ⟨k + 1, rd, rs1, rs2, imm⟩ _).mono ?_
  rintro e w1 ⟨rfl, hB1⟩
  rw [HV.out]
  have HI1 := (show Hid _ from (CellsAt.new w [.int .i64 (k + 1), .int .i64 rd, .int .i64 rs1, .int .i64 rs2, .int .i64 imm] 26).next hB1)
  have HE1 : Hid (Env w1) := (hE.alloc _).below hB1 (hE.alloc _).1
  have HB1 : Hid (Below w.heap.size w w1) := ((Below.refl _ _).alloc (Nat.le_refl _) _).trans (hB1.mono (by simp))
  clear hB1 hE
  unfold Pn.irowV Pn.irow
  go_wp2_with fail
  refine (shapeOf_is (Pn.row k).kind HKO.out _).mono ?_
  rintro e w2 ⟨rfl, rfl⟩
  have hM : (Pn.row k).name.length ≤ 8 := Pn.row_name k hk
  by_cases hs : Pn.shp (Pn.row k).kind = []
  · have HS := hide (Pn.shp_behind HKO.out ⟨k + 1, rd, rs1, rs2, imm⟩)
    rw [if_pos hs] at HS
    rw [hs]
    go_wp2_with fail
    go_ret2
    refine ⟨ret_t2 (str_ext ?_) rfl, HB1.out.alloc HB1.out.size _⟩
    unfold Pn.showL
    rw [← HS.out]
    simp
  · have HS := hide (Pn.shp_behind HKO.out ⟨k + 1, rd, rs1, rs2, imm⟩)
    rw [if_neg hs] at HS
    have hne : (ByteArray.mk (Pn.shp (Pn.row k).kind).toArray).toList.isEmpty = false := by
      rw [ByteArray.toList_eq]
      cases hq : Pn.shp (Pn.row k).kind with
      | nil => exact absurd hq hs
      | cons a l => rfl
    have hsz : (ByteArray.mk (Pn.shp (Pn.row k).kind).toArray).size ≤ 6 := by simpa [ByteArray.size] using Pn.shp_len (Pn.row k).kind
    have HLT : Hid (∀ r ∈ (ByteArray.mk (Pn.shp (Pn.row k).kind).toArray).data.toList, Pn.Lett r) := by
      show ∀ r ∈ _, _
      simpa using Pn.shp_lett HKO.out
    have HSD : Hid ((ByteArray.mk (Pn.shp (Pn.row k).kind).toArray).data.toList = Pn.shp (Pn.row k).kind) := by show _ = _; simp
    generalize ByteArray.mk (Pn.shp (Pn.row k).kind).toArray = S at *
    go_wp2_with fail
    go_loopw [7] (fun t wr => SRel (Pn.row k).name ⟨k + 1, rd, rs1, rs2, imm⟩ S w (w1.heap.size + 1) t wr) (fun _ wr => S.size - wr.iterPos (w1.heap.size + 1))
    case atStart =>
      refine ⟨0, _, by omega, rfl, ?_, ?_, ?_, ?_, ?_, ?_, ?_⟩
      · rw [ByteArray.size_append]; simp [ByteArray.size]; omega
      · show (_ ++ _ : ByteArray).data.toList = _
        rw [bdata]; simp
      · have := World.iter_heap (w1.alloc (.cells (Pn.irow k).toArray 100)) S 0
        rw [World.size_alloc] at this
        exact this
      · exact CellsAt.alloc (CellsAt.alloc HI1.out _) _
      · exact (Env.alloc (Env.alloc HE1.out _) _)
      · exact (HB1.out.alloc HB1.out.size _).alloc (by have := HB1.out.size; simp; omega) _
      · have := HB1.out.size; omega
    case round =>
      obtain ⟨j, T, hj, rfl, hTz, HT, hit, hI, hEn, hBn, hitz⟩ := hrel
      by_cases hlt : j < S.size
      · have hrl : Pn.Lett (S[j]'hlt) := HLT.out _ (by show S.data[j] ∈ S.data.toList; exact Array.mem_toList_iff.2 (Array.getElem_mem _))
        have hasc : (S[j]'hlt).toNat < 128 := by rcases hrl with h | h | h | h | h | h | h | h <;> (rw [h]; decide)
        have hnx : ∀ ty, (Instr.next (.pointer (some ⟨w1.heap.size + 1, 0, none⟩)) true ty).run Tryz.prog wr = .ok (.tuple #[.bool true, .int .i64 j, .int .i32 (S[j]'hlt).toNat]) (wr.iterAt (w1.heap.size + 1) S (j + 1)) := fun ty =>
          Lib.run_next_ascii_at wr (w1.heap.size + 1) S j ty hit hlt hasc
        have hBi := iter_below wr (w1.heap.size + 1) S (j + 1)
        have hI2 := hI.step hBi hitz
        have hit2 : (wr.iterAt (w1.heap.size + 1) S (j + 1)).heap[w1.heap.size + 1]? = some (.stringIter S (j + 1)) := Lib.iterAt_heap wr _ S j (j + 1) hit
        have hE2 : Env (wr.iterAt (w1.heap.size + 1) S (j + 1)) := hEn.below hBi (by have := HE1.out.1; omega)
        have hB2 : Below w.heap.size w (wr.iterAt (w1.heap.size + 1) S (j + 1)) := hBn.trans (hBi.mono (by omega))
        have HIT0 := hide hit
        clear hI hit hEn hBn hBi
        generalize wr.iterAt (w1.heap.size + 1) S (j + 1) = W at *
        obtain ⟨hz, _, ic⟩ := hI2
        have i0 := ic 0 _ rfl
        have i1 := ic 1 _ rfl
        have i2 := ic 2 _ rfl
        have i3 := ic 3 _ rfl
        have i4 := ic 4 _ rfl
        have HI2 : Hid (CellsAt w.heap.size [.int .i64 (k + 1), .int .i64 rd, .int .i64 rs1, .int .i64 rs2, .int .i64 imm] W) := ⟨hz, by assumption, ic⟩
        clear ic
        simp only at i0 i1 i2 i3 i4
        go_wp2_with fail
        refine (showPart_is _ _ _ _ _ _ hrl _ hE2 d0 d1 s0 s1 t0 t1 m0 m1).mono ?_
        rintro e w3 ⟨s, rfl, hs3, HS3, hB3⟩
        have HI3 := hide (CellsAt.next HI2.out hB3)
        have HE3 := hide (hE2.below hB3 hE2.1)
        have HB3 := hide (hB2.trans (hB3.mono hB2.size))
        have HIT3 : Hid (w3.heap[w1.heap.size + 1]? = some (.stringIter S (j + 1))) := (hB3.block _ (Array.getElem?_eq_some_iff.1 hit2).1).trans hit2
        have HTK : Hid (S.data.toList.take (j + 1) = S.data.toList.take j ++ [S[j]'hlt]) := by
          show _ = _
          rw [List.take_add_one, List.getElem?_eq_getElem (by simpa using hlt)]
          rfl
        clear hB3 hE2 hB2 hit2 i0 i1 i2 i3 i4 hnx
        have hTz2 : (T.size : Int) ≤ 142 := by omega
        have hs3' : (s.size : Int) ≤ 22 := by omega
        go_wp2_with fail
        go_roundw
        case rel =>
          refine ⟨j + 1, T ++ s, by omega, rfl, ?_, ?_, HIT3.out, HI3.out, HE3.out, HB3.out, hitz⟩
          · rw [ByteArray.size_append]; omega
          · show (T ++ s).data.toList = _
            rw [bdata, HT.out, HS3.out, HTK.out, List.flatMap_append]
            simp
        case measure =>
          simp [World.iterPos, HIT3.out, HIT0.out]
          omega
      · have hje : j = S.size := by omega
        have hnx : ∀ ty, (Instr.next (.pointer (some ⟨w1.heap.size + 1, 0, none⟩)) true ty).run Tryz.prog wr = .ok (.tuple #[.bool false]) wr := fun ty =>
          Lib.run_next_end_at wr (w1.heap.size + 1) S j ty hit hlt
        have HB3 := hide hBn
        clear hI hit hEn hBn
        go_wp2_with fail
        go_ret2
        refine ⟨ret_t2 (str_ext ?_) rfl, HB3.out⟩
        rw [HT.out, hje, List.take_of_length_le (by simp), HSD.out]
        unfold Pn.showL
        have := HS.out
        rw [← this]
        simp

theorem lshow_any (i : Pn.Ins) (w : World) (hE : Env w) :
    Calls Tryz.prog 36 #[i.val] w fun e w' => e = .returned (.tuple #[.string ⟨(Pn.shw i).1.toArray⟩, .int .i64 (Pn.shw i).2]) ∧ Below w.heap.size w w' := by
  by_cases h : Pn.right i = true
  · obtain ⟨op, rd, rs1, rs2, imm⟩ := i
    have hop : 1 ≤ op ∧ op ≤ 64 := by
      apply Classical.byContradiction; intro hn
      rw [Pn.right_out _ hn] at h; cases h
    obtain ⟨k, rfl⟩ : ∃ k : Nat, op = k + 1 := ⟨(op - 1).toNat, by omega⟩
    have hk : k < 64 := by omega
    rw [Pn.shw_yes h]
    exact lshow_in k rd rs1 rs2 imm w hk h hE
  · have h' : Pn.right i = false := by simpa using h
    rw [Pn.shw_not h']
    exact lshow_not i w h'

theorem pshow_any (i : Pn.Ins) (w : World) (hE : Env w) :
    Calls Tryz.prog 15 #[i.val] w fun e w' => e = .returned (.tuple #[.string ⟨(Pn.shw i).1.toArray⟩, .int .i64 (Pn.shw i).2]) ∧ Below w.heap.size w w' := by
  obtain ⟨op, rd, rs1, rs2, imm⟩ := i
  unfold Pn.Ins.val
  simp only
  have HE := hide (fun o => hE.alloc o)
  go_enter Tryz.func15, Tryz.ntmps15
  go_wp2_with fail
  refine (lshow_any ⟨op, rd, rs1, rs2, imm⟩ _ (HE.out _)).mono ?_
  rintro e w1 ⟨rfl, hB1⟩
  have HB1 : Hid (Below w.heap.size w w1) := ((Below.refl _ _).alloc (Nat.le_refl _) _).trans (hB1.mono (by simp))
  clear hB1
  go_wp2_with fail
  go_ret2
  exact ⟨rfl, HB1.out⟩

end Go.Proofs.YtbmcofdodfcnnaaGreatDoor
