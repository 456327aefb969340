import Derived.Test.YtbmcofdodfcnnaaGreatDoorGLA
import Derived.Test.YtbmcofdodfcnnaaGreatDoorGBG
import Derived.Test.YtbmcofdodfcnnaaGreatDoorGBC
import Derived.Lib.SplitLaws
import Derived.Test.YtbmcofdodfcnnaaGreatDoorGAW
import Derived.Test.YtbmcofdodfcnnaaGreatDoorVF
namespace Pn
open Go
structure Chk where
  size : Nat
  num : Int
  ins : Ins
def chk (l : List UInt8) : Chk :=
  if l.length < 2 then ⟨l.length, numN l, zIns⟩
  else if (expP (numN (l.take 2))).2 = 0 then ⟨2, numN (l.take 2), (expP (numN (l.take 2))).1⟩
  else if 4 ≤ l.length ∧ (dec (numN (l.take 4))).2 = 0 then ⟨4, numN (l.take 4), (dec (numN (l.take 4))).1⟩
  else ⟨2, numN (l.take 2), zIns⟩
theorem no_cut {T : List UInt8} (h : ∀ c ∈ T, c ≠ 35) : (Lib.cut T [35]).1 = T := by unfold Lib.cut; rw [idx_none T 35 h]; rfl
theorem names_other : ∀ k, k < 64 → Lib.hasPrefix (row k).name [99, 46] = false ∧ dsz (row k).name = 0 ∧ (row k).name ≠ [108, 105] ∧ nameB ([99, 46] ++ (row k).name) = true ∧ Lib.hasPrefix ([99, 46] ++ (row k).name) [99, 46] = true ∧ Lib.trimPrefix ([99, 46] ++ (row k).name) [99, 46] = (row k).name := by decide
end Pn
namespace Go.Proofs.YtbmcofdodfcnnaaGreatDoor
open Go.RowKit
def chkC (c : Pn.Chk) : List Value := [.int .i64 c.size, .int .i64 c.num, .int .i64 c.ins.op, .int .i64 c.ins.rd, .int .i64 c.ins.rs1, .int .i64 c.ins.rs2, .int .i64 c.ins.imm]
theorem wrap_num {l : List UInt8} (h : l.length ≤ 4) : IntKind.i64.wrap (Pn.numN l) = Pn.numN l := by
  have hb := Pn.numN_bd l
  have h2 : (2:Int) ^ (8 * l.length) ≤ 2 ^ 32 := Pn.pow_mono (by omega)
  have e : (2:Int) ^ 32 = 4294967296 := by decide
  exact IntWalk.i64_in _ (by omega)
theorem number_sm (s : ByteArray) (w : World) (hs : s.size ≤ 4) : Calls Tryz.prog 148 #[.string s] w fun e w' => e = .returned (.int .i64 (Pn.numN s.data.toList)) ∧ w' = w := by
  have := number_is s w (by omega)
  rwa [wrap_num (by rw [← Lib.size_eq]; exact hs)] at this
def z7 : List Value := [.int .i64 0, .int .i64 0, .int .i64 0, .int .i64 0, .int .i64 0, .int .i64 0, .int .i64 0]
theorem ext_take (s : ByteArray) (n : Nat) : (s.extract 0 n).data.toList = s.data.toList.take n := Lib.extract_from_zero s n
theorem size_list (s : ByteArray) : s.data.toList.length = s.size := (Lib.size_eq s).symm
theorem chk_1 {s : ByteArray} (h : s.size < 2) : Pn.chk s.data.toList = ⟨s.size, Pn.numN s.data.toList, Pn.zIns⟩ := by
  have hsz := size_list s
  unfold Pn.chk; rw [if_pos (by omega), hsz]
theorem chk_2 {s : ByteArray} {i : Pn.Ins} (h : ¬ s.size < 2) (he : Pn.expP (Pn.numN (s.extract 0 2).data.toList) = (i, 0)) : Pn.chk s.data.toList = ⟨2, Pn.numN (s.extract 0 2).data.toList, i⟩ := by
  have hsz := size_list s
  unfold Pn.chk; rw [← ext_take, if_neg (by omega), he]; simp
theorem chk_4 {s : ByteArray} {i : Pn.Ins} (h : ¬ s.size < 4) (he : (Pn.expP (Pn.numN (s.extract 0 2).data.toList)).2 ≠ 0) (hd : Pn.dec (Pn.numN (s.extract 0 4).data.toList) = (i, 0)) : Pn.chk s.data.toList = ⟨4, Pn.numN (s.extract 0 4).data.toList, i⟩ := by
  have hsz := size_list s
  unfold Pn.chk; rw [← ext_take, ← ext_take, if_neg (by omega), if_neg he, hd, if_pos ⟨by omega, rfl⟩]
theorem chk_n {s : ByteArray} (h : ¬ s.size < 2) (he : (Pn.expP (Pn.numN (s.extract 0 2).data.toList)).2 ≠ 0) (hd : s.size < 4 ∨ (Pn.dec (Pn.numN (s.extract 0 4).data.toList)).2 ≠ 0) : Pn.chk s.data.toList = ⟨2, Pn.numN (s.extract 0 2).data.toList, Pn.zIns⟩ := by
  have hsz := size_list s
  unfold Pn.chk; rw [← ext_take, ← ext_take, if_neg (by omega), if_neg he, if_neg (fun h2 => by
    rcases hd with hd | hd
    · omega
    · exact hd h2.2)]
set_option maxRecDepth 100000 in
set_option maxHeartbeats 4000000 in
theorem firstChunk_is (s : ByteArray) (w : World) :
    Calls Tryz.prog 138 #[.string s] w fun e w' => e = .returned (.agg (chkC (Pn.chk s.data.toList)).toArray) ∧ Below w.heap.size w w' := by
  have HZ : Hid (CellsAt w.heap.size z7 (w.alloc (.cells z7.toArray 139))) := hid (CellsAt.new w z7 139)
  have HB0 : Hid (Below w.heap.size w (w.alloc (.cells z7.toArray 139))) := hid ((Below.refl _ _).alloc (Nat.le_refl _) _)
  unfold z7 at HZ HB0
  by_cases h2 : s.size < 2
  · have HV := hid (chk_1 h2)
    have h2' : (s.size : Int) < 2 := by omega
    have HN := hid (fun w' => number_sm s w' (by omega))
    generalize Pn.numN s.data.toList = N at *
    go_enter Tryz.func138, Tryz.ntmps138
    go_wp2_with fail
    generalize w.alloc _ = W at *
    refine (HN.out _).mono ?_
    rintro e w1 ⟨rfl, rfl⟩
    have y0 := HZ.out.2.2 0 _ rfl
    have y1 := HZ.out.2.2 1 _ rfl
    have y2 := HZ.out.2.2 2 _ rfl
    have y3 := HZ.out.2.2 3 _ rfl
    have y4 := HZ.out.2.2 4 _ rfl
    have y5 := HZ.out.2.2 5 _ rfl
    have y6 := HZ.out.2.2 6 _ rfl
    have yf := HZ.out.2.1
    go_wp2_with fail
    refine bodyPost_ret (v := .agg (chkC ⟨s.size, N, Pn.zIns⟩).toArray) (by simp [results, Tryz.results138, go_sem, y0, y1, y2, y3, y4, y5, y6, chkC, Pn.zIns]) rfl ⟨by rw [HV.out], ?_⟩
    exact below7 HB0.out _ _ _ _ _ _ _
  · have h2' : (2 : Int) ≤ s.size := by omega
    have h2n : ¬ (s.size : Int) < 2 := by omega
    have HN := hid (fun w' => number_sm (s.extract 0 2) w' (by simp; omega))
    have HX := hid (fun w' => iexpand_any (Pn.numN (s.extract 0 2).data.toList) w')
    have HV2 := hid (fun i he => chk_2 (s := s) (i := i) h2 he)
    have HVn := hid (fun he hd => chk_n (s := s) h2 he hd)
    have HV4 := hid (fun (h4 : ¬ s.size < 4) i he hd => chk_4 (s := s) (i := i) h4 he hd)
    generalize Pn.numN (s.extract 0 2).data.toList = N at *
    generalize Pn.expP N = X at *
    obtain ⟨⟨xop, xrd, xrs1, xrs2, ximm⟩, ex⟩ := X
    unfold Pn.Ins.val at HX
    simp only at HX
    by_cases hex : ex = 0
    · subst hex
      have HV := hid (HV2.out _ rfl)
      go_enter Tryz.func138, Tryz.ntmps138
      go_wp2_with fail
      generalize w.alloc _ = W at *
      refine (HN.out _).mono ?_
      rintro e w1 ⟨rfl, rfl⟩
      go_wp2_with fail
      refine (HX.out _).mono ?_
      rintro e w2 ⟨rfl, hB2⟩
      have HZ := hid (HZ.out.next hB2)
      have HB0 := hid (HB0.out.trans (hB2.mono HB0.out.size))
      clear hB2
      have HZ := hid (HZ.out.alloc (.cells #[.int .i64 xop, .int .i64 xrd, .int .i64 xrs1, .int .i64 xrs2, .int .i64 ximm] 26))
      have HB0 := hid (HB0.out.alloc HB0.out.size (.cells #[.int .i64 xop, .int .i64 xrd, .int .i64 xrs1, .int .i64 xrs2, .int .i64 ximm] 26))
      have y0 := HZ.out.2.2 0 _ rfl
      have y1 := HZ.out.2.2 1 _ rfl
      have y2 := HZ.out.2.2 2 _ rfl
      have y3 := HZ.out.2.2 3 _ rfl
      have y4 := HZ.out.2.2 4 _ rfl
      have y5 := HZ.out.2.2 5 _ rfl
      have y6 := HZ.out.2.2 6 _ rfl
      have yf := HZ.out.2.1
      go_wp2_with fail
      refine bodyPost_ret (v := .agg (chkC ⟨2, N, ⟨xop, xrd, xrs1, xrs2, ximm⟩⟩).toArray) (by simp [results, Tryz.results138, go_sem, y0, y1, y2, y3, y4, y5, y6, chkC]) rfl ⟨by rw [HV.out], ?_⟩
      exact below7 HB0.out _ _ _ _ _ _ _
    · by_cases h4 : s.size < 4
      · have h4' : (s.size : Int) < 4 := by omega
        have HV := hid (HVn.out hex (.inl h4))
        go_enter Tryz.func138, Tryz.ntmps138
        go_wp2_with fail
        generalize w.alloc _ = W at *
        refine (HN.out _).mono ?_
        rintro e w1 ⟨rfl, rfl⟩
        go_wp2_with fail
        refine (HX.out _).mono ?_
        rintro e w2 ⟨rfl, hB2⟩
        have HZ := hid (HZ.out.next hB2)
        have HB0 := hid (HB0.out.trans (hB2.mono HB0.out.size))
        clear hB2
        have HZ := hid (HZ.out.alloc (.cells #[.int .i64 xop, .int .i64 xrd, .int .i64 xrs1, .int .i64 xrs2, .int .i64 ximm] 26))
        have HB0 := hid (HB0.out.alloc HB0.out.size (.cells #[.int .i64 xop, .int .i64 xrd, .int .i64 xrs1, .int .i64 xrs2, .int .i64 ximm] 26))
        have y0 := HZ.out.2.2 0 _ rfl
        have y1 := HZ.out.2.2 1 _ rfl
        have y2 := HZ.out.2.2 2 _ rfl
        have y3 := HZ.out.2.2 3 _ rfl
        have y4 := HZ.out.2.2 4 _ rfl
        have y5 := HZ.out.2.2 5 _ rfl
        have y6 := HZ.out.2.2 6 _ rfl
        have yf := HZ.out.2.1
        go_wp2_with fail
        refine bodyPost_ret (v := .agg (chkC ⟨2, N, Pn.zIns⟩).toArray) (by simp [results, Tryz.results138, go_sem, y0, y1, y2, y3, y4, y5, y6, chkC, Pn.zIns]) rfl ⟨by rw [HV.out], ?_⟩
        exact below7 HB0.out _ _ _ _ _ _ _
      · have h4' : (4 : Int) ≤ s.size := by omega
        have h4n : ¬ (s.size : Int) < 4 := by omega
        have HM := hid (fun w' => number_sm (s.extract 0 4) w' (by simp; omega))
        have HD := hid (fun w' => idecode_any (Pn.numN (s.extract 0 4).data.toList) w')
        have HV4 := hid (HV4.out h4)
        have HVn := hid (fun hd => HVn.out hex (.inr hd))
        generalize Pn.numN (s.extract 0 4).data.toList = M at *
        generalize Pn.dec M = X at *
        obtain ⟨⟨dop, drd, drs1, drs2, dimm⟩, dx⟩ := X
        unfold Pn.Ins.val at HD
        simp only at HD HVn HV4
        by_cases hdx : dx = 0
        · subst hdx
          have HV := hid (HV4.out _ hex rfl)
          go_enter Tryz.func138, Tryz.ntmps138
          go_wp2_with fail
          generalize w.alloc _ = W at *
          refine (HN.out _).mono ?_
          rintro e w1 ⟨rfl, rfl⟩
          go_wp2_with fail
          refine (HX.out _).mono ?_
          rintro e w2 ⟨rfl, hB2⟩
          have HZ := hid (HZ.out.next hB2)
          have HB0 := hid (HB0.out.trans (hB2.mono HB0.out.size))
          clear hB2
          have HZ := hid (HZ.out.alloc (.cells #[.int .i64 xop, .int .i64 xrd, .int .i64 xrs1, .int .i64 xrs2, .int .i64 ximm] 26))
          have HB0 := hid (HB0.out.alloc HB0.out.size (.cells #[.int .i64 xop, .int .i64 xrd, .int .i64 xrs1, .int .i64 xrs2, .int .i64 ximm] 26))
          go_wp2_with fail
          generalize w2.alloc _ = W2 at *
          refine (HM.out _).mono ?_
          rintro e w3 ⟨rfl, rfl⟩
          go_wp2_with fail
          refine (HD.out _).mono ?_
          rintro e w4 ⟨rfl, hB4⟩
          have HZ := hid (HZ.out.next hB4)
          have HB0 := hid (HB0.out.trans (hB4.mono HB0.out.size))
          clear hB4
          have HZ := hid (HZ.out.alloc (.cells #[.int .i64 dop, .int .i64 drd, .int .i64 drs1, .int .i64 drs2, .int .i64 dimm] 26))
          have HB0 := hid (HB0.out.alloc HB0.out.size (.cells #[.int .i64 dop, .int .i64 drd, .int .i64 drs1, .int .i64 drs2, .int .i64 dimm] 26))
          have y0 := HZ.out.2.2 0 _ rfl
          have y1 := HZ.out.2.2 1 _ rfl
          have y2 := HZ.out.2.2 2 _ rfl
          have y3 := HZ.out.2.2 3 _ rfl
          have y4 := HZ.out.2.2 4 _ rfl
          have y5 := HZ.out.2.2 5 _ rfl
          have y6 := HZ.out.2.2 6 _ rfl
          have yf := HZ.out.2.1
          go_wp2_with fail
          refine bodyPost_ret (v := .agg (chkC ⟨4, M, ⟨dop, drd, drs1, drs2, dimm⟩⟩).toArray) (by simp [results, Tryz.results138, go_sem, y0, y1, y2, y3, y4, y5, y6, chkC]) rfl ⟨by rw [HV.out], ?_⟩
          exact below7 HB0.out _ _ _ _ _ _ _
        · have HV := hid (HVn.out hdx)
          go_enter Tryz.func138, Tryz.ntmps138
          go_wp2_with fail
          generalize w.alloc _ = W at *
          refine (HN.out _).mono ?_
          rintro e w1 ⟨rfl, rfl⟩
          go_wp2_with fail
          refine (HX.out _).mono ?_
          rintro e w2 ⟨rfl, hB2⟩
          have HZ := hid (HZ.out.next hB2)
          have HB0 := hid (HB0.out.trans (hB2.mono HB0.out.size))
          clear hB2
          have HZ := hid (HZ.out.alloc (.cells #[.int .i64 xop, .int .i64 xrd, .int .i64 xrs1, .int .i64 xrs2, .int .i64 ximm] 26))
          have HB0 := hid (HB0.out.alloc HB0.out.size (.cells #[.int .i64 xop, .int .i64 xrd, .int .i64 xrs1, .int .i64 xrs2, .int .i64 ximm] 26))
          go_wp2_with fail
          generalize w2.alloc _ = W2 at *
          refine (HM.out _).mono ?_
          rintro e w3 ⟨rfl, rfl⟩
          go_wp2_with fail
          refine (HD.out _).mono ?_
          rintro e w4 ⟨rfl, hB4⟩
          have HZ := hid (HZ.out.next hB4)
          have HB0 := hid (HB0.out.trans (hB4.mono HB0.out.size))
          clear hB4
          have HZ := hid (HZ.out.alloc (.cells #[.int .i64 dop, .int .i64 drd, .int .i64 drs1, .int .i64 drs2, .int .i64 dimm] 26))
          have HB0 := hid (HB0.out.alloc HB0.out.size (.cells #[.int .i64 dop, .int .i64 drd, .int .i64 drs1, .int .i64 drs2, .int .i64 dimm] 26))
          have y0 := HZ.out.2.2 0 _ rfl
          have y1 := HZ.out.2.2 1 _ rfl
          have y2 := HZ.out.2.2 2 _ rfl
          have y3 := HZ.out.2.2 3 _ rfl
          have y4 := HZ.out.2.2 4 _ rfl
          have y5 := HZ.out.2.2 5 _ rfl
          have y6 := HZ.out.2.2 6 _ rfl
          have yf := HZ.out.2.1
          go_wp2_with fail
          refine bodyPost_ret (v := .agg (chkC ⟨2, N, Pn.zIns⟩).toArray) (by simp [results, Tryz.results138, go_sem, y0, y1, y2, y3, y4, y5, y6, chkC, Pn.zIns]) rfl ⟨by rw [HV.out], ?_⟩
          exact below7 HB0.out _ _ _ _ _ _ _
end Go.Proofs.YtbmcofdodfcnnaaGreatDoor
namespace Go.Proofs.YtbmcofdodfcnnaaGreatDoor
open Go.RowKit
theorem sz_mk (t : List UInt8) : (ByteArray.mk t.toArray).size = t.length := by simp [ByteArray.size]
end Go.Proofs.YtbmcofdodfcnnaaGreatDoor
