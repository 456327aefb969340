import Derived.Test.YtbmcofdodfcnnaaGreatDoorGSA
import Derived.Test.YtbmcofdodfcnnaaGreatDoorGFC
namespace Go.Proofs.YtbmcofdodfcnnaaGreatDoor
open Go.RowKit
theorem ppeek_in (b a : Nat) (w : World) {T : TypeId} {mem regs : List Int} {pc : Int} (h : IsM T b mem regs pc w) (ha : a < 4096) :
    Calls Tryz.prog 32 #[.pointer (some ⟨b, 0, none⟩), .int .i64 a] w fun e w' => e = .returned (.tuple #[.int .i64 (mem.getD a 0), .int .i64 0]) ∧ w' = w := by
  have hh : holdsB (a : Int) 1 = true := by simp [holdsB]; omega
  go_enter Tryz.func32, Tryz.ntmps32
  go_wp2_with (first
    | (go_at_call 46; refine (inner_is _ _).mono ?_; rintro e w' ⟨rfl, rfl⟩)
    | (go_at_call 51; refine (Peek_is b a _ h).mono ?_; rw [hh]; rintro e w' ⟨rfl, rfl⟩))
  go_ret2
  exact ⟨rfl, rfl⟩
theorem ppeek_at (b : Nat) (x : Int) (w : World) {T : TypeId} {mem regs : List Int} {pc : Int} (h : IsM T b mem regs pc w) (h0 : 0 ≤ x) (h1 : x < 4096) :
    Calls Tryz.prog 32 #[.pointer (some ⟨b, 0, none⟩), .int .i64 x] w fun e w' => e = .returned (.tuple #[.int .i64 (mem.getD x.toNat 0), .int .i64 0]) ∧ w' = w := by
  obtain ⟨a, rfl⟩ := Int.eq_ofNat_of_zero_le h0
  exact ppeek_in b a w h (by omega)
theorem bytN_get : ∀ (n j : Nat) (v : Int) (h : j < (Pn.bytN n v).length), (((Pn.bytN n v)[j]'h).toNat : Int) = v / 256 ^ j % 256
  | 0, _, _, h => by simp [Pn.bytN] at h
  | n + 1, 0, v, _ => by
    simp only [Pn.bytN, List.getElem_cons_zero, UInt8.toNat_ofNat']
    have : 0 ≤ v % 256 ∧ v % 256 < 256 := by omega
    simp only [Int.pow_zero, Int.ediv_one]
    omega
  | n + 1, j + 1, v, h => by
    have ih := bytN_get n j (v / 256) (by rw [Pn.bytN_len] at *; omega)
    simp only [Pn.bytN, List.getElem_cons_succ]
    rw [ih, Int.ediv_ediv, if_neg (fun h => absurd h.1 (by decide)), Int.sub_zero, Int.pow_succ, Int.mul_comm]
theorem pk_val (k a j : Nat) (v : Int) (hj : j < 2 ^ k) (ha : a + 2 ^ k ≤ 4096) : (mput (smem k) a (Pn.bytN (2 ^ k) v))[a + j]?.getD 0 = v / 256 ^ j % 256 := by
  have hl : (smem k).length = 4096 := by unfold smem; rw [mput_len (by rw [zlen, List.length_append, Pn.bytN_len, Pn.bytN_len]; decide)]; exact zlen
  have hj2 : j < (Pn.bytN (2 ^ k) v).length := by rw [Pn.bytN_len]; exact hj
  have := mput_get (smem k) a j (Pn.bytN (2 ^ k) v) (by omega) hj2
  rw [List.getD_eq_getElem?_getD] at this
  rw [this, bytN_get]
theorem pk_and (k a j : Nat) (v x : Int) (hj : j < 2 ^ k) (ha : a + 2 ^ k ≤ 4096) (hx : x = v / 256 ^ j) : (mput (smem k) a (Pn.bytN (2 ^ k) v))[a + j]?.getD 0 = Go.bits .and .i64 x 255 := by
  have e : (2 : Int) ^ 8 = 256 := by decide
  have e3 : Go.bits .and .i64 x 255 = x % 2 ^ 8 := Pn.andz_ones x 8 255 rfl (by decide)
  rw [pk_val k a j v hj ha, e3, e, hx]
theorem conv4 (w : World) (a b c d : Int) : (convert 65 9 (.slice (some ⟨w.heap.size, 0, none⟩) 4 4)).run Tryz.prog (w.alloc (.cells #[.int .u8 a, .int .u8 b, .int .u8 c, .int .u8 d] 5)) =
    .ok (.string (strOfNums [a, b, c, d])) (w.alloc (.cells #[.int .u8 a, .int .u8 b, .int .u8 c, .int .u8 d] 5)) :=
  run_convert_bytes_arg (P := Tryz.prog) (w.alloc (.cells #[.int .u8 a, .int .u8 b, .int .u8 c, .int .u8 d] 5)) 65 5 Tryz.underlying65 Tryz.underlying5 w.heap.size 0 4 4 [a, b, c, d] rfl (fun i hi => by
    rw [cell_of_row _ _ _ _ _ _ (heap_alloc_last w _)]
    match i, hi with
    | 0, _ => rfl
    | 1, _ => rfl
    | 2, _ => rfl
    | 3, _ => rfl) 9 Tryz.underlying9
def pre8 (x y : Int) (j : Nat) : List UInt8 := (Pn.bytN 4 x ++ Pn.bytN 4 y).take (4 * j)
set_option maxRecDepth 20000 in
set_option maxHeartbeats 4000000 in
theorem stored_is (address value size : Int) (w : World) (ha : inB address) (hv : inB value) (hs : inB size) (haw : Calls Tryz.prog 13 #[] w fun e w' => e = .returned (.bool true) ∧ Below w.heap.size w w') :
    Calls Tryz.prog 11 #[.int .i64 address, .int .i64 value, .int .i64 size] w fun e w' => e = .returned (.bool true) ∧ Below w.heap.size w w' := by
  have HAW := hid haw
  clear haw
  go_enter Tryz.func11, Tryz.ntmps11
  go_wp2_with fail
  refine HAW.out.mono ?_
  rintro e w1 ⟨rfl, hB1⟩
  have HB1 := hid hB1
  clear hB1 HAW
  go_wp2_with fail
  refine (pick_is size 4 _ (by decide) (by decide) hs).mono ?_
  rintro e w2 ⟨⟨k, rfl, hk⟩, rfl⟩
  have hk4 : k = 0 ∨ k = 1 ∨ k = 2 ∨ k = 3 := by omega
  rcases hk4 with rfl | rfl | rfl | rfl
  · go_wp2_with fail
    refine (pick_is address 4104 _ (by decide) (by decide) ha).mono ?_
    rintro e w2 ⟨⟨r, rfl, hr⟩, rfl⟩
    have wr4 : wrap64 ((r : Int) - 4) = (r : Int) - 4 := by rw [wrap64_eq]; exact IntWalk.i64_in _ (by omega)
    go_wp2_with fail
    refine (pencode_any (Pn.Ins.mk 50 0 2 3 0) _).mono ?_
    rintro e w3 ⟨rfl, hB3⟩
    have e1 : Pn.enc ⟨50, 0, 2, 3, 0⟩ = (3211299, 0) := by kernel_rfl
    rw [e1]
    clear e1
    have HB3 := hid (HB1.out.trans (hB3.mono HB1.out.size))
    clear hB3 HB1
    go_wp2_with fail
    refine (pencode_any (Pn.Ins.mk 42 4 2 0 0) _).mono ?_
    rintro e w4 ⟨rfl, hB4⟩
    have e1 : Pn.enc ⟨42, 4, 2, 0, 0⟩ = (66051, 0) := by kernel_rfl
    rw [e1]
    clear e1
    have HB4 := hid (HB3.out.trans (hB4.mono HB3.out.size))
    clear hB4 HB3
    have HS4 := hid (CellsAt.new w4 [.int .i64 3211299, .int .i64 66051] 3)
    have HB5 := hid (HB4.out.alloc HB4.out.size (.cells #[.int .i64 3211299, .int .i64 66051] 3))
    clear HB4
    go_wp2_with fail
    generalize w4.alloc _ = W5 at *
    go_loopw [15, 57] (fun c i wr => ∃ j : Nat, j ≤ 2 ∧ i = .int .i64 j ∧ c = .string ⟨(pre8 3211299 66051 j).toArray⟩ ∧ CellsAt w4.heap.size [.int .i64 3211299, .int .i64 66051] wr ∧ Below w.heap.size w wr) (fun _ i _ => 2 - (intOf i).toNat)
    case atStart => exact ⟨0, by omega, rfl, rfl, HS4.out, HB5.out⟩
    case round =>
      obtain ⟨j, hj, rfl, rfl, hC, hB⟩ := hrel
      have HC := hid (fun o => hC.alloc o)
      have HB := hid (fun o => hB.alloc hB.size o)
      have HBn := hid hB
      have hsz := hC.1
      have hj3 : j = 0 ∨ j = 1 ∨ j = 2 := by omega
      rcases hj3 with rfl | rfl | rfl
      · have c0 := hC.2.2 0 _ rfl
        have c1 := hC.2.2 1 _ rfl
        clear hC hB
        have e0 : (⟨(pre8 3211299 66051 0).toArray⟩ : ByteArray) = ⟨#[]⟩ := by kernel_rfl
        have e1 : strOfNums [35, 0, 49, 0] = ⟨#[35, 0, 49, 0]⟩ := by kernel_rfl
        rw [e0]
        go_wp2_with fail
        rw [conv4, e1]
        go_wp2_with fail
        go_roundw
        case rel => exact ⟨1, by omega, by go_num, by kernel_rfl, HC.out _, HB.out _⟩
        case measure => simp [intOf]
      · have c0 := hC.2.2 0 _ rfl
        have c1 := hC.2.2 1 _ rfl
        clear hC hB
        have e0 : (⟨(pre8 3211299 66051 1).toArray⟩ : ByteArray) = ⟨#[35, 0, 49, 0]⟩ := by kernel_rfl
        have e1 : strOfNums [3, 2, 1, 0] = ⟨#[3, 2, 1, 0]⟩ := by kernel_rfl
        rw [e0]
        go_wp2_with fail
        rw [conv4, e1]
        go_wp2_with fail
        go_roundw
        case rel => exact ⟨2, by omega, by go_num, by kernel_rfl, HC.out _, HB.out _⟩
        case measure => simp [intOf]
      · clear hC hB HC HB
        have e0 : (⟨(pre8 3211299 66051 2).toArray⟩ : ByteArray) = ⟨#[35, 0, 49, 0, 3, 2, 1, 0]⟩ := by kernel_rfl
        rw [e0]
        clear e0
        go_wp2_with fail
        refine (pnew_is ⟨#[35, 0, 49, 0, 3, 2, 1, 0]⟩ _ (by decide)).mono ?_
        rintro e w6 ⟨bM, rfl, hbM, hM6, hB6⟩
        have HM6 : Hid (IsM 92 bM (smem 0) zreg 0 w6) := hid (by have e : smem 0 = mput zmem 0 (⟨#[35, 0, 49, 0, 3, 2, 1, 0]⟩ : ByteArray).data.toList := congrArg (mput zmem 0) (by kernel_rfl); rw [e]; exact hM6)
        have HB6 := hid (HBn.out.trans (hB6.mono HBn.out.size))
        have hMz : w.heap.size ≤ bM := Nat.le_trans HBn.out.size hbM
        clear hM6 hB6 hbM HBn HS4 HB5
        go_wp2_with fail
        refine (pset_in bM 0 9 _ HM6.out (by decide)).mono ?_
        rintro e w7 ⟨rfl, hM7, hK7⟩
        have HM7 : Hid (IsM 92 bM (smem 0) zreg 0 w7) := hid hM7
        have HB7 := hid (hK7.below HB6.out hMz (Nat.le_refl _))
        clear hM7 hK7 HM6 HB6
        go_wp2_with fail
        refine (pget_in bM 0 _ HM7.out (by decide)).mono ?_
        rintro e w8 ⟨rfl, rfl⟩
        have e8 : zreg.getD 0 0 = 0 := rfl
        rw [e8]
        obtain ⟨at', hat⟩ : ∃ x : Int, (r : Int) - 4 = x := ⟨_, rfl⟩
        rw [hat]
        clear wr4 e8
        have hok := hid (sok_all 0 (by decide))
        by_cases hA : at' < 0
        · have hA2 : ¬ 0 ≤ at' := by omega
          have hA3 : inB at' := ⟨by omega, by omega⟩
          have hA4 : holdsB at' ((2 ^ 0 : Nat) : Int) = false := by simp [holdsB]; omega
          clear hat hr
          go_wp2_with fail
          refine (pset_in bM 2 at' _ HM7.out (by decide)).mono ?_
          rintro e w9 ⟨rfl, hM9, hK9⟩
          have HM9 := hid hM9
          have HB9 := hid (hK9.below HB7.out hMz (Nat.le_refl _))
          clear hM9 hK9
          go_wp2_with fail
          refine (pset_in bM 3 value _ HM9.out (by decide)).mono ?_
          rintro e w10 ⟨rfl, hM10, hK10⟩
          have HM10 : Hid (IsM 92 bM (smem 0) (reg2 at' value) 0 w10) := hid hM10
          have HB10 := hid (hK10.below HB9.out hMz (Nat.le_refl _))
          clear hM10 hK10 HM9 HB9
          go_wp2_with fail
          refine (pstep_is bM 3 at' _ HM10.out (fun w1 h1 => sstep_out bM 0 at' value hok.out hA3 _ w1 h1 hA4)).mono ?_
          rintro e w11 ⟨rfl, hM11, hK11⟩
          have HM11 := hid hM11
          have HB11 := hid (hK11.below HB10.out hMz (Nat.le_refl _))
          clear hM11 hK11 HM10 HB10
          unfold evV
          have HM12 := hid (HM11.out.alloc (.cells #[.int .i64 3, .int .i64 at'] 56))
          have HV12 := hid (CellsAt.new w11 [.int .i64 3, .int .i64 at'] 56)
          have HB12 := hid (HB11.out.alloc HB11.out.size (.cells #[.int .i64 3, .int .i64 at'] 56))
          clear HM11 HB11
          go_wp2_with fail
          refine (ppc_is bM _ HM12.out).mono ?_
          rintro e w13 ⟨rfl, rfl⟩
          go_wp2_with fail
          go_ret
          exact ⟨rfl, HB12.out⟩
        · by_cases hB : at' < 8
          · have hA2 : 0 ≤ at' := by omega
            have hin : 8 + 2 ^ 0 ≤ 4096 := by decide
            have h8 : 8 ≤ 8 := by decide
            clear hat hr
            go_wp2_with fail
            refine (pset_in bM 2 8 _ HM7.out (by decide)).mono ?_
            rintro e w9 ⟨rfl, hM9, hK9⟩
            have HM9 := hid hM9
            have HB9 := hid (hK9.below HB7.out hMz (Nat.le_refl _))
            clear hM9 hK9
            go_wp2_with fail
            refine (pset_in bM 3 value _ HM9.out (by decide)).mono ?_
            rintro e w10 ⟨rfl, hM10, hK10⟩
            have HM10 : Hid (IsM 92 bM (smem 0) (reg2 ((8 : Nat) : Int) value) 0 w10) := hid hM10
            have HB10 := hid (hK10.below HB9.out hMz (Nat.le_refl _))
            clear hM10 hK10 HM9 HB9
            go_wp2_with fail
            refine (pstep_is bM 0 0 _ HM10.out (fun w1 h1 => sstep_in bM 0 8 value hok.out _ w1 h1 hin)).mono ?_
            rintro e w11 ⟨rfl, hM11, hK11⟩
            have HB11 := hid (hK11.below HB10.out hMz (Nat.le_refl _))
            have HM12 := hid (hM11.alloc (.cells #[.int .i64 0, .int .i64 0] 56))
            have HB12 := hid (HB11.out.alloc HB11.out.size (.cells #[.int .i64 0, .int .i64 0] 56))
            clear hM11 hK11 HM10 HB10 HB11
            unfold evV
            go_wp2_with fail
            generalize w11.alloc _ = W12 at *
            go_loopw [24] (fun i wr => ∃ j : Nat, j ≤ 1 ∧ i = .int .i64 j ∧ wr = W12) (fun i _ => 1 - (intOf i).toNat)
            case atStart => exact ⟨0, by omega, rfl, rfl⟩
            case round =>
              obtain ⟨j, hj, rfl, rfl⟩ := hrel
              by_cases hlt : j < 1
              · have hjs : j = 0 := by omega
                rcases hjs with rfl
                · have q : (mput (smem 0) 8 (Pn.bytN 1 value))[8]?.getD 0 = Go.bits .and .i64 value 255 := pk_and 0 8 0 value _ (by decide) hin (by simp)
                  go_wp2_with fail
                  refine (ppeek_at bM _ _ HM12.out (by omega) (by omega)).mono ?_
                  rintro e w14 ⟨rfl, rfl⟩
                  go_wp2_with fail
                  go_roundw
                  case rel => exact ⟨1, by omega, by go_num, trivial⟩
                  case measure => simp [intOf]
              · have hjn : j = 1 := by omega
                subst hjn
                go_wp2_with fail
                refine (pstep_is bM 0 0 _ HM12.out (fun w1 h1 => lstep bM 0 8 value hok.out _ w1 h1 h8 hin)).mono ?_
                rintro e w15 ⟨rfl, hM15, hK15⟩
                have HB15 := hid (hK15.below HB12.out hMz (Nat.le_refl _))
                have HM16 := hid (hM15.alloc (.cells #[.int .i64 0, .int .i64 0] 56))
                have HB16 := hid (HB15.out.alloc HB15.out.size (.cells #[.int .i64 0, .int .i64 0] 56))
                clear hM15 hK15 HB15
                unfold evV
                go_wp2_with fail
                refine (pget_in bM 4 _ HM16.out (by decide)).mono ?_
                rintro e w17 ⟨rfl, rfl⟩
                have e17 : (rset (reg2 ((8 : Nat) : Int) value) 4 (Pn.sgP ((42 + 0 : Nat) : Int) (IntKind.i64.wrap (value % 2 ^ (8 * 2 ^ 0))))).getD 4 0 = wrap64 (value * 72057594037927936) / 72057594037927936 := want0 value
                rw [e17]
                go_wp2_with fail
                go_ret
                exact ⟨rfl, HB16.out⟩
          · have hA2 : 0 ≤ at' := by omega
            by_cases hC : at' + 1 ≤ 4096
            · obtain ⟨a, rfl⟩ := Int.eq_ofNat_of_zero_le hA2
              have hin : a + 2 ^ 0 ≤ 4096 := by omega
              have h8 : 8 ≤ a := by omega
              have hw : wrap64 ((a : Int) + 1) = a + 1 := by rw [wrap64_eq]; exact IntWalk.i64_in _ (by omega)
              clear hat hr
              go_wp2_with fail
              refine (pset_in bM 2 a _ HM7.out (by decide)).mono ?_
              rintro e w9 ⟨rfl, hM9, hK9⟩
              have HM9 := hid hM9
              have HB9 := hid (hK9.below HB7.out hMz (Nat.le_refl _))
              clear hM9 hK9
              go_wp2_with fail
              refine (pset_in bM 3 value _ HM9.out (by decide)).mono ?_
              rintro e w10 ⟨rfl, hM10, hK10⟩
              have HM10 : Hid (IsM 92 bM (smem 0) (reg2 ((a : Nat) : Int) value) 0 w10) := hid hM10
              have HB10 := hid (hK10.below HB9.out hMz (Nat.le_refl _))
              clear hM10 hK10 HM9 HB9
              go_wp2_with fail
              refine (pstep_is bM 0 0 _ HM10.out (fun w1 h1 => sstep_in bM 0 a value hok.out _ w1 h1 hin)).mono ?_
              rintro e w11 ⟨rfl, hM11, hK11⟩
              have HB11 := hid (hK11.below HB10.out hMz (Nat.le_refl _))
              have HM12 := hid (hM11.alloc (.cells #[.int .i64 0, .int .i64 0] 56))
              have HB12 := hid (HB11.out.alloc HB11.out.size (.cells #[.int .i64 0, .int .i64 0] 56))
              clear hM11 hK11 HM10 HB10 HB11
              unfold evV
              go_wp2_with fail
              generalize w11.alloc _ = W12 at *
              go_loopw [24] (fun i wr => ∃ j : Nat, j ≤ 1 ∧ i = .int .i64 j ∧ wr = W12) (fun i _ => 1 - (intOf i).toNat)
              case atStart => exact ⟨0, by omega, rfl, rfl⟩
              case round =>
                obtain ⟨j, hj, rfl, rfl⟩ := hrel
                by_cases hlt : j < 1
                · have hjs : j = 0 := by omega
                  rcases hjs with rfl
                  · have q : (mput (smem 0) a (Pn.bytN 1 value))[a]?.getD 0 = Go.bits .and .i64 value 255 := pk_and 0 a 0 value _ (by decide) hin (by simp)
                    go_wp2_with fail
                    refine (ppeek_at bM _ _ HM12.out (by omega) (by omega)).mono ?_
                    rintro e w14 ⟨rfl, rfl⟩
                    go_wp2_with fail
                    go_roundw
                    case rel => exact ⟨1, by omega, by go_num, trivial⟩
                    case measure => simp [intOf]
                · have hjn : j = 1 := by omega
                  subst hjn
                  go_wp2_with fail
                  refine (pstep_is bM 0 0 _ HM12.out (fun w1 h1 => lstep bM 0 a value hok.out _ w1 h1 h8 hin)).mono ?_
                  rintro e w15 ⟨rfl, hM15, hK15⟩
                  have HB15 := hid (hK15.below HB12.out hMz (Nat.le_refl _))
                  have HM16 := hid (hM15.alloc (.cells #[.int .i64 0, .int .i64 0] 56))
                  have HB16 := hid (HB15.out.alloc HB15.out.size (.cells #[.int .i64 0, .int .i64 0] 56))
                  clear hM15 hK15 HB15
                  unfold evV
                  go_wp2_with fail
                  refine (pget_in bM 4 _ HM16.out (by decide)).mono ?_
                  rintro e w17 ⟨rfl, rfl⟩
                  have e17 : (rset (reg2 ((a : Nat) : Int) value) 4 (Pn.sgP ((42 + 0 : Nat) : Int) (IntKind.i64.wrap (value % 2 ^ (8 * 2 ^ 0))))).getD 4 0 = wrap64 (value * 72057594037927936) / 72057594037927936 := want0 value
                  rw [e17]
                  go_wp2_with fail
                  go_ret
                  exact ⟨rfl, HB16.out⟩
            · have hA3 : inB at' := ⟨by omega, by omega⟩
              have hA4 : holdsB at' ((2 ^ 0 : Nat) : Int) = false := by simp [holdsB]; omega
              have hw : wrap64 (at' + 1) = at' + 1 := by rw [wrap64_eq]; exact IntWalk.i64_in _ (by omega)
              have hC2 : 4096 < at' + 1 := by omega
              clear hat hr
              go_wp2_with fail
              refine (pset_in bM 2 at' _ HM7.out (by decide)).mono ?_
              rintro e w9 ⟨rfl, hM9, hK9⟩
              have HM9 := hid hM9
              have HB9 := hid (hK9.below HB7.out hMz (Nat.le_refl _))
              clear hM9 hK9
              go_wp2_with fail
              refine (pset_in bM 3 value _ HM9.out (by decide)).mono ?_
              rintro e w10 ⟨rfl, hM10, hK10⟩
              have HM10 : Hid (IsM 92 bM (smem 0) (reg2 at' value) 0 w10) := hid hM10
              have HB10 := hid (hK10.below HB9.out hMz (Nat.le_refl _))
              clear hM10 hK10 HM9 HB9
              go_wp2_with fail
              refine (pstep_is bM 3 at' _ HM10.out (fun w1 h1 => sstep_out bM 0 at' value hok.out hA3 _ w1 h1 hA4)).mono ?_
              rintro e w11 ⟨rfl, hM11, hK11⟩
              have HM11 := hid hM11
              have HB11 := hid (hK11.below HB10.out hMz (Nat.le_refl _))
              clear hM11 hK11 HM10 HB10
              unfold evV
              have HM12 := hid (HM11.out.alloc (.cells #[.int .i64 3, .int .i64 at'] 56))
              have HV12 := hid (CellsAt.new w11 [.int .i64 3, .int .i64 at'] 56)
              have HB12 := hid (HB11.out.alloc HB11.out.size (.cells #[.int .i64 3, .int .i64 at'] 56))
              clear HM11 HB11
              go_wp2_with fail
              refine (ppc_is bM _ HM12.out).mono ?_
              rintro e w13 ⟨rfl, rfl⟩
              go_wp2_with fail
              go_ret
              exact ⟨rfl, HB12.out⟩

  · go_wp2_with fail
    refine (pick_is address 4104 _ (by decide) (by decide) ha).mono ?_
    rintro e w2 ⟨⟨r, rfl, hr⟩, rfl⟩
    have wr4 : wrap64 ((r : Int) - 4) = (r : Int) - 4 := by rw [wrap64_eq]; exact IntWalk.i64_in _ (by omega)
    go_wp2_with fail
    refine (pencode_any (Pn.Ins.mk 51 0 2 3 0) _).mono ?_
    rintro e w3 ⟨rfl, hB3⟩
    have e1 : Pn.enc ⟨51, 0, 2, 3, 0⟩ = (3215395, 0) := by kernel_rfl
    rw [e1]
    clear e1
    have HB3 := hid (HB1.out.trans (hB3.mono HB1.out.size))
    clear hB3 HB1
    go_wp2_with fail
    refine (pencode_any (Pn.Ins.mk 43 4 2 0 0) _).mono ?_
    rintro e w4 ⟨rfl, hB4⟩
    have e1 : Pn.enc ⟨43, 4, 2, 0, 0⟩ = (70147, 0) := by kernel_rfl
    rw [e1]
    clear e1
    have HB4 := hid (HB3.out.trans (hB4.mono HB3.out.size))
    clear hB4 HB3
    have HS4 := hid (CellsAt.new w4 [.int .i64 3215395, .int .i64 70147] 3)
    have HB5 := hid (HB4.out.alloc HB4.out.size (.cells #[.int .i64 3215395, .int .i64 70147] 3))
    clear HB4
    go_wp2_with fail
    generalize w4.alloc _ = W5 at *
    go_loopw [15, 57] (fun c i wr => ∃ j : Nat, j ≤ 2 ∧ i = .int .i64 j ∧ c = .string ⟨(pre8 3215395 70147 j).toArray⟩ ∧ CellsAt w4.heap.size [.int .i64 3215395, .int .i64 70147] wr ∧ Below w.heap.size w wr) (fun _ i _ => 2 - (intOf i).toNat)
    case atStart => exact ⟨0, by omega, rfl, rfl, HS4.out, HB5.out⟩
    case round =>
      obtain ⟨j, hj, rfl, rfl, hC, hB⟩ := hrel
      have HC := hid (fun o => hC.alloc o)
      have HB := hid (fun o => hB.alloc hB.size o)
      have HBn := hid hB
      have hsz := hC.1
      have hj3 : j = 0 ∨ j = 1 ∨ j = 2 := by omega
      rcases hj3 with rfl | rfl | rfl
      · have c0 := hC.2.2 0 _ rfl
        have c1 := hC.2.2 1 _ rfl
        clear hC hB
        have e0 : (⟨(pre8 3215395 70147 0).toArray⟩ : ByteArray) = ⟨#[]⟩ := by kernel_rfl
        have e1 : strOfNums [35, 16, 49, 0] = ⟨#[35, 16, 49, 0]⟩ := by kernel_rfl
        rw [e0]
        go_wp2_with fail
        rw [conv4, e1]
        go_wp2_with fail
        go_roundw
        case rel => exact ⟨1, by omega, by go_num, by kernel_rfl, HC.out _, HB.out _⟩
        case measure => simp [intOf]
      · have c0 := hC.2.2 0 _ rfl
        have c1 := hC.2.2 1 _ rfl
        clear hC hB
        have e0 : (⟨(pre8 3215395 70147 1).toArray⟩ : ByteArray) = ⟨#[35, 16, 49, 0]⟩ := by kernel_rfl
        have e1 : strOfNums [3, 18, 1, 0] = ⟨#[3, 18, 1, 0]⟩ := by kernel_rfl
        rw [e0]
        go_wp2_with fail
        rw [conv4, e1]
        go_wp2_with fail
        go_roundw
        case rel => exact ⟨2, by omega, by go_num, by kernel_rfl, HC.out _, HB.out _⟩
        case measure => simp [intOf]
      · clear hC hB HC HB
        have e0 : (⟨(pre8 3215395 70147 2).toArray⟩ : ByteArray) = ⟨#[35, 16, 49, 0, 3, 18, 1, 0]⟩ := by kernel_rfl
        rw [e0]
        clear e0
        go_wp2_with fail
        refine (pnew_is ⟨#[35, 16, 49, 0, 3, 18, 1, 0]⟩ _ (by decide)).mono ?_
        rintro e w6 ⟨bM, rfl, hbM, hM6, hB6⟩
        have HM6 : Hid (IsM 92 bM (smem 1) zreg 0 w6) := hid (by have e : smem 1 = mput zmem 0 (⟨#[35, 16, 49, 0, 3, 18, 1, 0]⟩ : ByteArray).data.toList := congrArg (mput zmem 0) (by kernel_rfl); rw [e]; exact hM6)
        have HB6 := hid (HBn.out.trans (hB6.mono HBn.out.size))
        have hMz : w.heap.size ≤ bM := Nat.le_trans HBn.out.size hbM
        clear hM6 hB6 hbM HBn HS4 HB5
        go_wp2_with fail
        refine (pset_in bM 0 9 _ HM6.out (by decide)).mono ?_
        rintro e w7 ⟨rfl, hM7, hK7⟩
        have HM7 : Hid (IsM 92 bM (smem 1) zreg 0 w7) := hid hM7
        have HB7 := hid (hK7.below HB6.out hMz (Nat.le_refl _))
        clear hM7 hK7 HM6 HB6
        go_wp2_with fail
        refine (pget_in bM 0 _ HM7.out (by decide)).mono ?_
        rintro e w8 ⟨rfl, rfl⟩
        have e8 : zreg.getD 0 0 = 0 := rfl
        rw [e8]
        obtain ⟨at', hat⟩ : ∃ x : Int, (r : Int) - 4 = x := ⟨_, rfl⟩
        rw [hat]
        clear wr4 e8
        have hok := hid (sok_all 1 (by decide))
        by_cases hA : at' < 0
        · have hA2 : ¬ 0 ≤ at' := by omega
          have hA3 : inB at' := ⟨by omega, by omega⟩
          have hA4 : holdsB at' ((2 ^ 1 : Nat) : Int) = false := by simp [holdsB]; omega
          clear hat hr
          go_wp2_with fail
          refine (pset_in bM 2 at' _ HM7.out (by decide)).mono ?_
          rintro e w9 ⟨rfl, hM9, hK9⟩
          have HM9 := hid hM9
          have HB9 := hid (hK9.below HB7.out hMz (Nat.le_refl _))
          clear hM9 hK9
          go_wp2_with fail
          refine (pset_in bM 3 value _ HM9.out (by decide)).mono ?_
          rintro e w10 ⟨rfl, hM10, hK10⟩
          have HM10 : Hid (IsM 92 bM (smem 1) (reg2 at' value) 0 w10) := hid hM10
          have HB10 := hid (hK10.below HB9.out hMz (Nat.le_refl _))
          clear hM10 hK10 HM9 HB9
          go_wp2_with fail
          refine (pstep_is bM 3 at' _ HM10.out (fun w1 h1 => sstep_out bM 1 at' value hok.out hA3 _ w1 h1 hA4)).mono ?_
          rintro e w11 ⟨rfl, hM11, hK11⟩
          have HM11 := hid hM11
          have HB11 := hid (hK11.below HB10.out hMz (Nat.le_refl _))
          clear hM11 hK11 HM10 HB10
          unfold evV
          have HM12 := hid (HM11.out.alloc (.cells #[.int .i64 3, .int .i64 at'] 56))
          have HV12 := hid (CellsAt.new w11 [.int .i64 3, .int .i64 at'] 56)
          have HB12 := hid (HB11.out.alloc HB11.out.size (.cells #[.int .i64 3, .int .i64 at'] 56))
          clear HM11 HB11
          go_wp2_with fail
          refine (ppc_is bM _ HM12.out).mono ?_
          rintro e w13 ⟨rfl, rfl⟩
          go_wp2_with fail
          go_ret
          exact ⟨rfl, HB12.out⟩
        · by_cases hB : at' < 8
          · have hA2 : 0 ≤ at' := by omega
            have hin : 8 + 2 ^ 1 ≤ 4096 := by decide
            have h8 : 8 ≤ 8 := by decide
            clear hat hr
            go_wp2_with fail
            refine (pset_in bM 2 8 _ HM7.out (by decide)).mono ?_
            rintro e w9 ⟨rfl, hM9, hK9⟩
            have HM9 := hid hM9
            have HB9 := hid (hK9.below HB7.out hMz (Nat.le_refl _))
            clear hM9 hK9
            go_wp2_with fail
            refine (pset_in bM 3 value _ HM9.out (by decide)).mono ?_
            rintro e w10 ⟨rfl, hM10, hK10⟩
            have HM10 : Hid (IsM 92 bM (smem 1) (reg2 ((8 : Nat) : Int) value) 0 w10) := hid hM10
            have HB10 := hid (hK10.below HB9.out hMz (Nat.le_refl _))
            clear hM10 hK10 HM9 HB9
            go_wp2_with fail
            refine (pstep_is bM 0 0 _ HM10.out (fun w1 h1 => sstep_in bM 1 8 value hok.out _ w1 h1 hin)).mono ?_
            rintro e w11 ⟨rfl, hM11, hK11⟩
            have HB11 := hid (hK11.below HB10.out hMz (Nat.le_refl _))
            have HM12 := hid (hM11.alloc (.cells #[.int .i64 0, .int .i64 0] 56))
            have HB12 := hid (HB11.out.alloc HB11.out.size (.cells #[.int .i64 0, .int .i64 0] 56))
            clear hM11 hK11 HM10 HB10 HB11
            unfold evV
            go_wp2_with fail
            generalize w11.alloc _ = W12 at *
            go_loopw [24] (fun i wr => ∃ j : Nat, j ≤ 2 ∧ i = .int .i64 j ∧ wr = W12) (fun i _ => 2 - (intOf i).toNat)
            case atStart => exact ⟨0, by omega, rfl, rfl⟩
            case round =>
              obtain ⟨j, hj, rfl, rfl⟩ := hrel
              by_cases hlt : j < 2
              · have hjs : j = 0 ∨ j = 1 := by omega
                rcases hjs with rfl | rfl
                · have q : (mput (smem 1) 8 (Pn.bytN 2 value))[8]?.getD 0 = Go.bits .and .i64 value 255 := pk_and 1 8 0 value _ (by decide) hin (by simp)
                  go_wp2_with fail
                  refine (ppeek_at bM _ _ HM12.out (by omega) (by omega)).mono ?_
                  rintro e w14 ⟨rfl, rfl⟩
                  go_wp2_with fail
                  go_roundw
                  case rel => exact ⟨1, by omega, by go_num, trivial⟩
                  case measure => simp [intOf]
                · have q : (mput (smem 1) 8 (Pn.bytN 2 value))[9]?.getD 0 = Go.bits .and .i64 (value / 256) 255 := pk_and 1 8 1 value _ (by decide) hin (by rfl)
                  go_wp2_with fail
                  refine (ppeek_at bM _ _ HM12.out (by omega) (by omega)).mono ?_
                  rintro e w14 ⟨rfl, rfl⟩
                  go_wp2_with fail
                  go_roundw
                  case rel => exact ⟨2, by omega, by go_num, trivial⟩
                  case measure => simp [intOf]
              · have hjn : j = 2 := by omega
                subst hjn
                go_wp2_with fail
                refine (pstep_is bM 0 0 _ HM12.out (fun w1 h1 => lstep bM 1 8 value hok.out _ w1 h1 h8 hin)).mono ?_
                rintro e w15 ⟨rfl, hM15, hK15⟩
                have HB15 := hid (hK15.below HB12.out hMz (Nat.le_refl _))
                have HM16 := hid (hM15.alloc (.cells #[.int .i64 0, .int .i64 0] 56))
                have HB16 := hid (HB15.out.alloc HB15.out.size (.cells #[.int .i64 0, .int .i64 0] 56))
                clear hM15 hK15 HB15
                unfold evV
                go_wp2_with fail
                refine (pget_in bM 4 _ HM16.out (by decide)).mono ?_
                rintro e w17 ⟨rfl, rfl⟩
                have e17 : (rset (reg2 ((8 : Nat) : Int) value) 4 (Pn.sgP ((42 + 1 : Nat) : Int) (IntKind.i64.wrap (value % 2 ^ (8 * 2 ^ 1))))).getD 4 0 = wrap64 (value * 281474976710656) / 281474976710656 := want1 value
                rw [e17]
                go_wp2_with fail
                go_ret
                exact ⟨rfl, HB16.out⟩
          · have hA2 : 0 ≤ at' := by omega
            by_cases hC : at' + 2 ≤ 4096
            · obtain ⟨a, rfl⟩ := Int.eq_ofNat_of_zero_le hA2
              have hin : a + 2 ^ 1 ≤ 4096 := by omega
              have h8 : 8 ≤ a := by omega
              have hw : wrap64 ((a : Int) + 2) = a + 2 := by rw [wrap64_eq]; exact IntWalk.i64_in _ (by omega)
              clear hat hr
              go_wp2_with fail
              refine (pset_in bM 2 a _ HM7.out (by decide)).mono ?_
              rintro e w9 ⟨rfl, hM9, hK9⟩
              have HM9 := hid hM9
              have HB9 := hid (hK9.below HB7.out hMz (Nat.le_refl _))
              clear hM9 hK9
              go_wp2_with fail
              refine (pset_in bM 3 value _ HM9.out (by decide)).mono ?_
              rintro e w10 ⟨rfl, hM10, hK10⟩
              have HM10 : Hid (IsM 92 bM (smem 1) (reg2 ((a : Nat) : Int) value) 0 w10) := hid hM10
              have HB10 := hid (hK10.below HB9.out hMz (Nat.le_refl _))
              clear hM10 hK10 HM9 HB9
              go_wp2_with fail
              refine (pstep_is bM 0 0 _ HM10.out (fun w1 h1 => sstep_in bM 1 a value hok.out _ w1 h1 hin)).mono ?_
              rintro e w11 ⟨rfl, hM11, hK11⟩
              have HB11 := hid (hK11.below HB10.out hMz (Nat.le_refl _))
              have HM12 := hid (hM11.alloc (.cells #[.int .i64 0, .int .i64 0] 56))
              have HB12 := hid (HB11.out.alloc HB11.out.size (.cells #[.int .i64 0, .int .i64 0] 56))
              clear hM11 hK11 HM10 HB10 HB11
              unfold evV
              go_wp2_with fail
              generalize w11.alloc _ = W12 at *
              go_loopw [24] (fun i wr => ∃ j : Nat, j ≤ 2 ∧ i = .int .i64 j ∧ wr = W12) (fun i _ => 2 - (intOf i).toNat)
              case atStart => exact ⟨0, by omega, rfl, rfl⟩
              case round =>
                obtain ⟨j, hj, rfl, rfl⟩ := hrel
                by_cases hlt : j < 2
                · have hjs : j = 0 ∨ j = 1 := by omega
                  rcases hjs with rfl | rfl
                  · have q : (mput (smem 1) a (Pn.bytN 2 value))[a]?.getD 0 = Go.bits .and .i64 value 255 := pk_and 1 a 0 value _ (by decide) hin (by simp)
                    go_wp2_with fail
                    refine (ppeek_at bM _ _ HM12.out (by omega) (by omega)).mono ?_
                    rintro e w14 ⟨rfl, rfl⟩
                    go_wp2_with fail
                    go_roundw
                    case rel => exact ⟨1, by omega, by go_num, trivial⟩
                    case measure => simp [intOf]
                  · have q : (mput (smem 1) a (Pn.bytN 2 value))[a + 1]?.getD 0 = Go.bits .and .i64 (value / 256) 255 := pk_and 1 a 1 value _ (by decide) hin (by rfl)
                    go_wp2_with fail
                    refine (ppeek_at bM _ _ HM12.out (by omega) (by omega)).mono ?_
                    rintro e w14 ⟨rfl, rfl⟩
                    go_wp2_with fail
                    go_roundw
                    case rel => exact ⟨2, by omega, by go_num, trivial⟩
                    case measure => simp [intOf]
                · have hjn : j = 2 := by omega
                  subst hjn
                  go_wp2_with fail
                  refine (pstep_is bM 0 0 _ HM12.out (fun w1 h1 => lstep bM 1 a value hok.out _ w1 h1 h8 hin)).mono ?_
                  rintro e w15 ⟨rfl, hM15, hK15⟩
                  have HB15 := hid (hK15.below HB12.out hMz (Nat.le_refl _))
                  have HM16 := hid (hM15.alloc (.cells #[.int .i64 0, .int .i64 0] 56))
                  have HB16 := hid (HB15.out.alloc HB15.out.size (.cells #[.int .i64 0, .int .i64 0] 56))
                  clear hM15 hK15 HB15
                  unfold evV
                  go_wp2_with fail
                  refine (pget_in bM 4 _ HM16.out (by decide)).mono ?_
                  rintro e w17 ⟨rfl, rfl⟩
                  have e17 : (rset (reg2 ((a : Nat) : Int) value) 4 (Pn.sgP ((42 + 1 : Nat) : Int) (IntKind.i64.wrap (value % 2 ^ (8 * 2 ^ 1))))).getD 4 0 = wrap64 (value * 281474976710656) / 281474976710656 := want1 value
                  rw [e17]
                  go_wp2_with fail
                  go_ret
                  exact ⟨rfl, HB16.out⟩
            · have hA3 : inB at' := ⟨by omega, by omega⟩
              have hA4 : holdsB at' ((2 ^ 1 : Nat) : Int) = false := by simp [holdsB]; omega
              have hw : wrap64 (at' + 2) = at' + 2 := by rw [wrap64_eq]; exact IntWalk.i64_in _ (by omega)
              have hC2 : 4096 < at' + 2 := by omega
              clear hat hr
              go_wp2_with fail
              refine (pset_in bM 2 at' _ HM7.out (by decide)).mono ?_
              rintro e w9 ⟨rfl, hM9, hK9⟩
              have HM9 := hid hM9
              have HB9 := hid (hK9.below HB7.out hMz (Nat.le_refl _))
              clear hM9 hK9
              go_wp2_with fail
              refine (pset_in bM 3 value _ HM9.out (by decide)).mono ?_
              rintro e w10 ⟨rfl, hM10, hK10⟩
              have HM10 : Hid (IsM 92 bM (smem 1) (reg2 at' value) 0 w10) := hid hM10
              have HB10 := hid (hK10.below HB9.out hMz (Nat.le_refl _))
              clear hM10 hK10 HM9 HB9
              go_wp2_with fail
              refine (pstep_is bM 3 at' _ HM10.out (fun w1 h1 => sstep_out bM 1 at' value hok.out hA3 _ w1 h1 hA4)).mono ?_
              rintro e w11 ⟨rfl, hM11, hK11⟩
              have HM11 := hid hM11
              have HB11 := hid (hK11.below HB10.out hMz (Nat.le_refl _))
              clear hM11 hK11 HM10 HB10
              unfold evV
              have HM12 := hid (HM11.out.alloc (.cells #[.int .i64 3, .int .i64 at'] 56))
              have HV12 := hid (CellsAt.new w11 [.int .i64 3, .int .i64 at'] 56)
              have HB12 := hid (HB11.out.alloc HB11.out.size (.cells #[.int .i64 3, .int .i64 at'] 56))
              clear HM11 HB11
              go_wp2_with fail
              refine (ppc_is bM _ HM12.out).mono ?_
              rintro e w13 ⟨rfl, rfl⟩
              go_wp2_with fail
              go_ret
              exact ⟨rfl, HB12.out⟩

  · go_wp2_with fail
    refine (pick_is address 4104 _ (by decide) (by decide) ha).mono ?_
    rintro e w2 ⟨⟨r, rfl, hr⟩, rfl⟩
    have wr4 : wrap64 ((r : Int) - 4) = (r : Int) - 4 := by rw [wrap64_eq]; exact IntWalk.i64_in _ (by omega)
    go_wp2_with fail
    refine (pencode_any (Pn.Ins.mk 52 0 2 3 0) _).mono ?_
    rintro e w3 ⟨rfl, hB3⟩
    have e1 : Pn.enc ⟨52, 0, 2, 3, 0⟩ = (3219491, 0) := by kernel_rfl
    rw [e1]
    clear e1
    have HB3 := hid (HB1.out.trans (hB3.mono HB1.out.size))
    clear hB3 HB1
    go_wp2_with fail
    refine (pencode_any (Pn.Ins.mk 44 4 2 0 0) _).mono ?_
    rintro e w4 ⟨rfl, hB4⟩
    have e1 : Pn.enc ⟨44, 4, 2, 0, 0⟩ = (74243, 0) := by kernel_rfl
    rw [e1]
    clear e1
    have HB4 := hid (HB3.out.trans (hB4.mono HB3.out.size))
    clear hB4 HB3
    have HS4 := hid (CellsAt.new w4 [.int .i64 3219491, .int .i64 74243] 3)
    have HB5 := hid (HB4.out.alloc HB4.out.size (.cells #[.int .i64 3219491, .int .i64 74243] 3))
    clear HB4
    go_wp2_with fail
    generalize w4.alloc _ = W5 at *
    go_loopw [15, 57] (fun c i wr => ∃ j : Nat, j ≤ 2 ∧ i = .int .i64 j ∧ c = .string ⟨(pre8 3219491 74243 j).toArray⟩ ∧ CellsAt w4.heap.size [.int .i64 3219491, .int .i64 74243] wr ∧ Below w.heap.size w wr) (fun _ i _ => 2 - (intOf i).toNat)
    case atStart => exact ⟨0, by omega, rfl, rfl, HS4.out, HB5.out⟩
    case round =>
      obtain ⟨j, hj, rfl, rfl, hC, hB⟩ := hrel
      have HC := hid (fun o => hC.alloc o)
      have HB := hid (fun o => hB.alloc hB.size o)
      have HBn := hid hB
      have hsz := hC.1
      have hj3 : j = 0 ∨ j = 1 ∨ j = 2 := by omega
      rcases hj3 with rfl | rfl | rfl
      · have c0 := hC.2.2 0 _ rfl
        have c1 := hC.2.2 1 _ rfl
        clear hC hB
        have e0 : (⟨(pre8 3219491 74243 0).toArray⟩ : ByteArray) = ⟨#[]⟩ := by kernel_rfl
        have e1 : strOfNums [35, 32, 49, 0] = ⟨#[35, 32, 49, 0]⟩ := by kernel_rfl
        rw [e0]
        go_wp2_with fail
        rw [conv4, e1]
        go_wp2_with fail
        go_roundw
        case rel => exact ⟨1, by omega, by go_num, by kernel_rfl, HC.out _, HB.out _⟩
        case measure => simp [intOf]
      · have c0 := hC.2.2 0 _ rfl
        have c1 := hC.2.2 1 _ rfl
        clear hC hB
        have e0 : (⟨(pre8 3219491 74243 1).toArray⟩ : ByteArray) = ⟨#[35, 32, 49, 0]⟩ := by kernel_rfl
        have e1 : strOfNums [3, 34, 1, 0] = ⟨#[3, 34, 1, 0]⟩ := by kernel_rfl
        rw [e0]
        go_wp2_with fail
        rw [conv4, e1]
        go_wp2_with fail
        go_roundw
        case rel => exact ⟨2, by omega, by go_num, by kernel_rfl, HC.out _, HB.out _⟩
        case measure => simp [intOf]
      · clear hC hB HC HB
        have e0 : (⟨(pre8 3219491 74243 2).toArray⟩ : ByteArray) = ⟨#[35, 32, 49, 0, 3, 34, 1, 0]⟩ := by kernel_rfl
        rw [e0]
        clear e0
        go_wp2_with fail
        refine (pnew_is ⟨#[35, 32, 49, 0, 3, 34, 1, 0]⟩ _ (by decide)).mono ?_
        rintro e w6 ⟨bM, rfl, hbM, hM6, hB6⟩
        have HM6 : Hid (IsM 92 bM (smem 2) zreg 0 w6) := hid (by have e : smem 2 = mput zmem 0 (⟨#[35, 32, 49, 0, 3, 34, 1, 0]⟩ : ByteArray).data.toList := congrArg (mput zmem 0) (by kernel_rfl); rw [e]; exact hM6)
        have HB6 := hid (HBn.out.trans (hB6.mono HBn.out.size))
        have hMz : w.heap.size ≤ bM := Nat.le_trans HBn.out.size hbM
        clear hM6 hB6 hbM HBn HS4 HB5
        go_wp2_with fail
        refine (pset_in bM 0 9 _ HM6.out (by decide)).mono ?_
        rintro e w7 ⟨rfl, hM7, hK7⟩
        have HM7 : Hid (IsM 92 bM (smem 2) zreg 0 w7) := hid hM7
        have HB7 := hid (hK7.below HB6.out hMz (Nat.le_refl _))
        clear hM7 hK7 HM6 HB6
        go_wp2_with fail
        refine (pget_in bM 0 _ HM7.out (by decide)).mono ?_
        rintro e w8 ⟨rfl, rfl⟩
        have e8 : zreg.getD 0 0 = 0 := rfl
        rw [e8]
        obtain ⟨at', hat⟩ : ∃ x : Int, (r : Int) - 4 = x := ⟨_, rfl⟩
        rw [hat]
        clear wr4 e8
        have hok := hid (sok_all 2 (by decide))
        by_cases hA : at' < 0
        · have hA2 : ¬ 0 ≤ at' := by omega
          have hA3 : inB at' := ⟨by omega, by omega⟩
          have hA4 : holdsB at' ((2 ^ 2 : Nat) : Int) = false := by simp [holdsB]; omega
          clear hat hr
          go_wp2_with fail
          refine (pset_in bM 2 at' _ HM7.out (by decide)).mono ?_
          rintro e w9 ⟨rfl, hM9, hK9⟩
          have HM9 := hid hM9
          have HB9 := hid (hK9.below HB7.out hMz (Nat.le_refl _))
          clear hM9 hK9
          go_wp2_with fail
          refine (pset_in bM 3 value _ HM9.out (by decide)).mono ?_
          rintro e w10 ⟨rfl, hM10, hK10⟩
          have HM10 : Hid (IsM 92 bM (smem 2) (reg2 at' value) 0 w10) := hid hM10
          have HB10 := hid (hK10.below HB9.out hMz (Nat.le_refl _))
          clear hM10 hK10 HM9 HB9
          go_wp2_with fail
          refine (pstep_is bM 3 at' _ HM10.out (fun w1 h1 => sstep_out bM 2 at' value hok.out hA3 _ w1 h1 hA4)).mono ?_
          rintro e w11 ⟨rfl, hM11, hK11⟩
          have HM11 := hid hM11
          have HB11 := hid (hK11.below HB10.out hMz (Nat.le_refl _))
          clear hM11 hK11 HM10 HB10
          unfold evV
          have HM12 := hid (HM11.out.alloc (.cells #[.int .i64 3, .int .i64 at'] 56))
          have HV12 := hid (CellsAt.new w11 [.int .i64 3, .int .i64 at'] 56)
          have HB12 := hid (HB11.out.alloc HB11.out.size (.cells #[.int .i64 3, .int .i64 at'] 56))
          clear HM11 HB11
          go_wp2_with fail
          refine (ppc_is bM _ HM12.out).mono ?_
          rintro e w13 ⟨rfl, rfl⟩
          go_wp2_with fail
          go_ret
          exact ⟨rfl, HB12.out⟩
        · by_cases hB : at' < 8
          · have hA2 : 0 ≤ at' := by omega
            have hin : 8 + 2 ^ 2 ≤ 4096 := by decide
            have h8 : 8 ≤ 8 := by decide
            clear hat hr
            go_wp2_with fail
            refine (pset_in bM 2 8 _ HM7.out (by decide)).mono ?_
            rintro e w9 ⟨rfl, hM9, hK9⟩
            have HM9 := hid hM9
            have HB9 := hid (hK9.below HB7.out hMz (Nat.le_refl _))
            clear hM9 hK9
            go_wp2_with fail
            refine (pset_in bM 3 value _ HM9.out (by decide)).mono ?_
            rintro e w10 ⟨rfl, hM10, hK10⟩
            have HM10 : Hid (IsM 92 bM (smem 2) (reg2 ((8 : Nat) : Int) value) 0 w10) := hid hM10
            have HB10 := hid (hK10.below HB9.out hMz (Nat.le_refl _))
            clear hM10 hK10 HM9 HB9
            go_wp2_with fail
            refine (pstep_is bM 0 0 _ HM10.out (fun w1 h1 => sstep_in bM 2 8 value hok.out _ w1 h1 hin)).mono ?_
            rintro e w11 ⟨rfl, hM11, hK11⟩
            have HB11 := hid (hK11.below HB10.out hMz (Nat.le_refl _))
            have HM12 := hid (hM11.alloc (.cells #[.int .i64 0, .int .i64 0] 56))
            have HB12 := hid (HB11.out.alloc HB11.out.size (.cells #[.int .i64 0, .int .i64 0] 56))
            clear hM11 hK11 HM10 HB10 HB11
            unfold evV
            go_wp2_with fail
            generalize w11.alloc _ = W12 at *
            go_loopw [24] (fun i wr => ∃ j : Nat, j ≤ 4 ∧ i = .int .i64 j ∧ wr = W12) (fun i _ => 4 - (intOf i).toNat)
            case atStart => exact ⟨0, by omega, rfl, rfl⟩
            case round =>
              obtain ⟨j, hj, rfl, rfl⟩ := hrel
              by_cases hlt : j < 4
              · have hjs : j = 0 ∨ j = 1 ∨ j = 2 ∨ j = 3 := by omega
                rcases hjs with rfl | rfl | rfl | rfl
                · have q : (mput (smem 2) 8 (Pn.bytN 4 value))[8]?.getD 0 = Go.bits .and .i64 value 255 := pk_and 2 8 0 value _ (by decide) hin (by simp)
                  go_wp2_with fail
                  refine (ppeek_at bM _ _ HM12.out (by omega) (by omega)).mono ?_
                  rintro e w14 ⟨rfl, rfl⟩
                  go_wp2_with fail
                  go_roundw
                  case rel => exact ⟨1, by omega, by go_num, trivial⟩
                  case measure => simp [intOf]
                · have q : (mput (smem 2) 8 (Pn.bytN 4 value))[9]?.getD 0 = Go.bits .and .i64 (value / 256) 255 := pk_and 2 8 1 value _ (by decide) hin (by rfl)
                  go_wp2_with fail
                  refine (ppeek_at bM _ _ HM12.out (by omega) (by omega)).mono ?_
                  rintro e w14 ⟨rfl, rfl⟩
                  go_wp2_with fail
                  go_roundw
                  case rel => exact ⟨2, by omega, by go_num, trivial⟩
                  case measure => simp [intOf]
                · have q : (mput (smem 2) 8 (Pn.bytN 4 value))[10]?.getD 0 = Go.bits .and .i64 (value / 65536) 255 := pk_and 2 8 2 value _ (by decide) hin (by rfl)
                  go_wp2_with fail
                  refine (ppeek_at bM _ _ HM12.out (by omega) (by omega)).mono ?_
                  rintro e w14 ⟨rfl, rfl⟩
                  go_wp2_with fail
                  go_roundw
                  case rel => exact ⟨3, by omega, by go_num, trivial⟩
                  case measure => simp [intOf]
                · have q : (mput (smem 2) 8 (Pn.bytN 4 value))[11]?.getD 0 = Go.bits .and .i64 (value / 16777216) 255 := pk_and 2 8 3 value _ (by decide) hin (by rfl)
                  go_wp2_with fail
                  refine (ppeek_at bM _ _ HM12.out (by omega) (by omega)).mono ?_
                  rintro e w14 ⟨rfl, rfl⟩
                  go_wp2_with fail
                  go_roundw
                  case rel => exact ⟨4, by omega, by go_num, trivial⟩
                  case measure => simp [intOf]
              · have hjn : j = 4 := by omega
                subst hjn
                go_wp2_with fail
                refine (pstep_is bM 0 0 _ HM12.out (fun w1 h1 => lstep bM 2 8 value hok.out _ w1 h1 h8 hin)).mono ?_
                rintro e w15 ⟨rfl, hM15, hK15⟩
                have HB15 := hid (hK15.below HB12.out hMz (Nat.le_refl _))
                have HM16 := hid (hM15.alloc (.cells #[.int .i64 0, .int .i64 0] 56))
                have HB16 := hid (HB15.out.alloc HB15.out.size (.cells #[.int .i64 0, .int .i64 0] 56))
                clear hM15 hK15 HB15
                unfold evV
                go_wp2_with fail
                refine (pget_in bM 4 _ HM16.out (by decide)).mono ?_
                rintro e w17 ⟨rfl, rfl⟩
                have e17 : (rset (reg2 ((8 : Nat) : Int) value) 4 (Pn.sgP ((42 + 2 : Nat) : Int) (IntKind.i64.wrap (value % 2 ^ (8 * 2 ^ 2))))).getD 4 0 = wrap64 (value * 4294967296) / 4294967296 := want2 value
                rw [e17]
                go_wp2_with fail
                go_ret
                exact ⟨rfl, HB16.out⟩
          · have hA2 : 0 ≤ at' := by omega
            by_cases hC : at' + 4 ≤ 4096
            · obtain ⟨a, rfl⟩ := Int.eq_ofNat_of_zero_le hA2
              have hin : a + 2 ^ 2 ≤ 4096 := by omega
              have h8 : 8 ≤ a := by omega
              have hw : wrap64 ((a : Int) + 4) = a + 4 := by rw [wrap64_eq]; exact IntWalk.i64_in _ (by omega)
              clear hat hr
              go_wp2_with fail
              refine (pset_in bM 2 a _ HM7.out (by decide)).mono ?_
              rintro e w9 ⟨rfl, hM9, hK9⟩
              have HM9 := hid hM9
              have HB9 := hid (hK9.below HB7.out hMz (Nat.le_refl _))
              clear hM9 hK9
              go_wp2_with fail
              refine (pset_in bM 3 value _ HM9.out (by decide)).mono ?_
              rintro e w10 ⟨rfl, hM10, hK10⟩
              have HM10 : Hid (IsM 92 bM (smem 2) (reg2 ((a : Nat) : Int) value) 0 w10) := hid hM10
              have HB10 := hid (hK10.below HB9.out hMz (Nat.le_refl _))
              clear hM10 hK10 HM9 HB9
              go_wp2_with fail
              refine (pstep_is bM 0 0 _ HM10.out (fun w1 h1 => sstep_in bM 2 a value hok.out _ w1 h1 hin)).mono ?_
              rintro e w11 ⟨rfl, hM11, hK11⟩
              have HB11 := hid (hK11.below HB10.out hMz (Nat.le_refl _))
              have HM12 := hid (hM11.alloc (.cells #[.int .i64 0, .int .i64 0] 56))
              have HB12 := hid (HB11.out.alloc HB11.out.size (.cells #[.int .i64 0, .int .i64 0] 56))
              clear hM11 hK11 HM10 HB10 HB11
              unfold evV
              go_wp2_with fail
              generalize w11.alloc _ = W12 at *
              go_loopw [24] (fun i wr => ∃ j : Nat, j ≤ 4 ∧ i = .int .i64 j ∧ wr = W12) (fun i _ => 4 - (intOf i).toNat)
              case atStart => exact ⟨0, by omega, rfl, rfl⟩
              case round =>
                obtain ⟨j, hj, rfl, rfl⟩ := hrel
                by_cases hlt : j < 4
                · have hjs : j = 0 ∨ j = 1 ∨ j = 2 ∨ j = 3 := by omega
                  rcases hjs with rfl | rfl | rfl | rfl
                  · have q : (mput (smem 2) a (Pn.bytN 4 value))[a]?.getD 0 = Go.bits .and .i64 value 255 := pk_and 2 a 0 value _ (by decide) hin (by simp)
                    go_wp2_with fail
                    refine (ppeek_at bM _ _ HM12.out (by omega) (by omega)).mono ?_
                    rintro e w14 ⟨rfl, rfl⟩
                    go_wp2_with fail
                    go_roundw
                    case rel => exact ⟨1, by omega, by go_num, trivial⟩
                    case measure => simp [intOf]
                  · have q : (mput (smem 2) a (Pn.bytN 4 value))[a + 1]?.getD 0 = Go.bits .and .i64 (value / 256) 255 := pk_and 2 a 1 value _ (by decide) hin (by rfl)
                    go_wp2_with fail
                    refine (ppeek_at bM _ _ HM12.out (by omega) (by omega)).mono ?_
                    rintro e w14 ⟨rfl, rfl⟩
                    go_wp2_with fail
                    go_roundw
                    case rel => exact ⟨2, by omega, by go_num, trivial⟩
                    case measure => simp [intOf]
                  · have q : (mput (smem 2) a (Pn.bytN 4 value))[a + 2]?.getD 0 = Go.bits .and .i64 (value / 65536) 255 := pk_and 2 a 2 value _ (by decide) hin (by rfl)
                    go_wp2_with fail
                    refine (ppeek_at bM _ _ HM12.out (by omega) (by omega)).mono ?_
                    rintro e w14 ⟨rfl, rfl⟩
                    go_wp2_with fail
                    go_roundw
                    case rel => exact ⟨3, by omega, by go_num, trivial⟩
                    case measure => simp [intOf]
                  · have q : (mput (smem 2) a (Pn.bytN 4 value))[a + 3]?.getD 0 = Go.bits .and .i64 (value / 16777216) 255 := pk_and 2 a 3 value _ (by decide) hin (by rfl)
                    go_wp2_with fail
                    refine (ppeek_at bM _ _ HM12.out (by omega) (by omega)).mono ?_
                    rintro e w14 ⟨rfl, rfl⟩
                    go_wp2_with fail
                    go_roundw
                    case rel => exact ⟨4, by omega, by go_num, trivial⟩
                    case measure => simp [intOf]
                · have hjn : j = 4 := by omega
                  subst hjn
                  go_wp2_with fail
                  refine (pstep_is bM 0 0 _ HM12.out (fun w1 h1 => lstep bM 2 a value hok.out _ w1 h1 h8 hin)).mono ?_
                  rintro e w15 ⟨rfl, hM15, hK15⟩
                  have HB15 := hid (hK15.below HB12.out hMz (Nat.le_refl _))
                  have HM16 := hid (hM15.alloc (.cells #[.int .i64 0, .int .i64 0] 56))
                  have HB16 := hid (HB15.out.alloc HB15.out.size (.cells #[.int .i64 0, .int .i64 0] 56))
                  clear hM15 hK15 HB15
                  unfold evV
                  go_wp2_with fail
                  refine (pget_in bM 4 _ HM16.out (by decide)).mono ?_
                  rintro e w17 ⟨rfl, rfl⟩
                  have e17 : (rset (reg2 ((a : Nat) : Int) value) 4 (Pn.sgP ((42 + 2 : Nat) : Int) (IntKind.i64.wrap (value % 2 ^ (8 * 2 ^ 2))))).getD 4 0 = wrap64 (value * 4294967296) / 4294967296 := want2 value
                  rw [e17]
                  go_wp2_with fail
                  go_ret
                  exact ⟨rfl, HB16.out⟩
            · have hA3 : inB at' := ⟨by omega, by omega⟩
              have hA4 : holdsB at' ((2 ^ 2 : Nat) : Int) = false := by simp [holdsB]; omega
              have hw : wrap64 (at' + 4) = at' + 4 := by rw [wrap64_eq]; exact IntWalk.i64_in _ (by omega)
              have hC2 : 4096 < at' + 4 := by omega
              clear hat hr
              go_wp2_with fail
              refine (pset_in bM 2 at' _ HM7.out (by decide)).mono ?_
              rintro e w9 ⟨rfl, hM9, hK9⟩
              have HM9 := hid hM9
              have HB9 := hid (hK9.below HB7.out hMz (Nat.le_refl _))
              clear hM9 hK9
              go_wp2_with fail
              refine (pset_in bM 3 value _ HM9.out (by decide)).mono ?_
              rintro e w10 ⟨rfl, hM10, hK10⟩
              have HM10 : Hid (IsM 92 bM (smem 2) (reg2 at' value) 0 w10) := hid hM10
              have HB10 := hid (hK10.below HB9.out hMz (Nat.le_refl _))
              clear hM10 hK10 HM9 HB9
              go_wp2_with fail
              refine (pstep_is bM 3 at' _ HM10.out (fun w1 h1 => sstep_out bM 2 at' value hok.out hA3 _ w1 h1 hA4)).mono ?_
              rintro e w11 ⟨rfl, hM11, hK11⟩
              have HM11 := hid hM11
              have HB11 := hid (hK11.below HB10.out hMz (Nat.le_refl _))
              clear hM11 hK11 HM10 HB10
              unfold evV
              have HM12 := hid (HM11.out.alloc (.cells #[.int .i64 3, .int .i64 at'] 56))
              have HV12 := hid (CellsAt.new w11 [.int .i64 3, .int .i64 at'] 56)
              have HB12 := hid (HB11.out.alloc HB11.out.size (.cells #[.int .i64 3, .int .i64 at'] 56))
              clear HM11 HB11
              go_wp2_with fail
              refine (ppc_is bM _ HM12.out).mono ?_
              rintro e w13 ⟨rfl, rfl⟩
              go_wp2_with fail
              go_ret
              exact ⟨rfl, HB12.out⟩

  · go_wp2_with fail
    refine (pick_is address 4104 _ (by decide) (by decide) ha).mono ?_
    rintro e w2 ⟨⟨r, rfl, hr⟩, rfl⟩
    have wr4 : wrap64 ((r : Int) - 4) = (r : Int) - 4 := by rw [wrap64_eq]; exact IntWalk.i64_in _ (by omega)
    go_wp2_with fail
    refine (pencode_any (Pn.Ins.mk 53 0 2 3 0) _).mono ?_
    rintro e w3 ⟨rfl, hB3⟩
    have e1 : Pn.enc ⟨53, 0, 2, 3, 0⟩ = (3223587, 0) := by kernel_rfl
    rw [e1]
    clear e1
    have HB3 := hid (HB1.out.trans (hB3.mono HB1.out.size))
    clear hB3 HB1
    go_wp2_with fail
    refine (pencode_any (Pn.Ins.mk 45 4 2 0 0) _).mono ?_
    rintro e w4 ⟨rfl, hB4⟩
    have e1 : Pn.enc ⟨45, 4, 2, 0, 0⟩ = (78339, 0) := by kernel_rfl
    rw [e1]
    clear e1
    have HB4 := hid (HB3.out.trans (hB4.mono HB3.out.size))
    clear hB4 HB3
    have HS4 := hid (CellsAt.new w4 [.int .i64 3223587, .int .i64 78339] 3)
    have HB5 := hid (HB4.out.alloc HB4.out.size (.cells #[.int .i64 3223587, .int .i64 78339] 3))
    clear HB4
    go_wp2_with fail
    generalize w4.alloc _ = W5 at *
    go_loopw [15, 57] (fun c i wr => ∃ j : Nat, j ≤ 2 ∧ i = .int .i64 j ∧ c = .string ⟨(pre8 3223587 78339 j).toArray⟩ ∧ CellsAt w4.heap.size [.int .i64 3223587, .int .i64 78339] wr ∧ Below w.heap.size w wr) (fun _ i _ => 2 - (intOf i).toNat)
    case atStart => exact ⟨0, by omega, rfl, rfl, HS4.out, HB5.out⟩
    case round =>
      obtain ⟨j, hj, rfl, rfl, hC, hB⟩ := hrel
      have HC := hid (fun o => hC.alloc o)
      have HB := hid (fun o => hB.alloc hB.size o)
      have HBn := hid hB
      have hsz := hC.1
      have hj3 : j = 0 ∨ j = 1 ∨ j = 2 := by omega
      rcases hj3 with rfl | rfl | rfl
      · have c0 := hC.2.2 0 _ rfl
        have c1 := hC.2.2 1 _ rfl
        clear hC hB
        have e0 : (⟨(pre8 3223587 78339 0).toArray⟩ : ByteArray) = ⟨#[]⟩ := by kernel_rfl
        have e1 : strOfNums [35, 48, 49, 0] = ⟨#[35, 48, 49, 0]⟩ := by kernel_rfl
        rw [e0]
        go_wp2_with fail
        rw [conv4, e1]
        go_wp2_with fail
        go_roundw
        case rel => exact ⟨1, by omega, by go_num, by kernel_rfl, HC.out _, HB.out _⟩
        case measure => simp [intOf]
      · have c0 := hC.2.2 0 _ rfl
        have c1 := hC.2.2 1 _ rfl
        clear hC hB
        have e0 : (⟨(pre8 3223587 78339 1).toArray⟩ : ByteArray) = ⟨#[35, 48, 49, 0]⟩ := by kernel_rfl
        have e1 : strOfNums [3, 50, 1, 0] = ⟨#[3, 50, 1, 0]⟩ := by kernel_rfl
        rw [e0]
        go_wp2_with fail
        rw [conv4, e1]
        go_wp2_with fail
        go_roundw
        case rel => exact ⟨2, by omega, by go_num, by kernel_rfl, HC.out _, HB.out _⟩
        case measure => simp [intOf]
      · clear hC hB HC HB
        have e0 : (⟨(pre8 3223587 78339 2).toArray⟩ : ByteArray) = ⟨#[35, 48, 49, 0, 3, 50, 1, 0]⟩ := by kernel_rfl
        rw [e0]
        clear e0
        go_wp2_with fail
        refine (pnew_is ⟨#[35, 48, 49, 0, 3, 50, 1, 0]⟩ _ (by decide)).mono ?_
        rintro e w6 ⟨bM, rfl, hbM, hM6, hB6⟩
        have HM6 : Hid (IsM 92 bM (smem 3) zreg 0 w6) := hid (by have e : smem 3 = mput zmem 0 (⟨#[35, 48, 49, 0, 3, 50, 1, 0]⟩ : ByteArray).data.toList := congrArg (mput zmem 0) (by kernel_rfl); rw [e]; exact hM6)
        have HB6 := hid (HBn.out.trans (hB6.mono HBn.out.size))
        have hMz : w.heap.size ≤ bM := Nat.le_trans HBn.out.size hbM
        clear hM6 hB6 hbM HBn HS4 HB5
        go_wp2_with fail
        refine (pset_in bM 0 9 _ HM6.out (by decide)).mono ?_
        rintro e w7 ⟨rfl, hM7, hK7⟩
        have HM7 : Hid (IsM 92 bM (smem 3) zreg 0 w7) := hid hM7
        have HB7 := hid (hK7.below HB6.out hMz (Nat.le_refl _))
        clear hM7 hK7 HM6 HB6
        go_wp2_with fail
        refine (pget_in bM 0 _ HM7.out (by decide)).mono ?_
        rintro e w8 ⟨rfl, rfl⟩
        have e8 : zreg.getD 0 0 = 0 := rfl
        rw [e8]
        obtain ⟨at', hat⟩ : ∃ x : Int, (r : Int) - 4 = x := ⟨_, rfl⟩
        rw [hat]
        clear wr4 e8
        have hok := hid (sok_all 3 (by decide))
        by_cases hA : at' < 0
        · have hA2 : ¬ 0 ≤ at' := by omega
          have hA3 : inB at' := ⟨by omega, by omega⟩
          have hA4 : holdsB at' ((2 ^ 3 : Nat) : Int) = false := by simp [holdsB]; omega
          clear hat hr
          go_wp2_with fail
          refine (pset_in bM 2 at' _ HM7.out (by decide)).mono ?_
          rintro e w9 ⟨rfl, hM9, hK9⟩
          have HM9 := hid hM9
          have HB9 := hid (hK9.below HB7.out hMz (Nat.le_refl _))
          clear hM9 hK9
          go_wp2_with fail
          refine (pset_in bM 3 value _ HM9.out (by decide)).mono ?_
          rintro e w10 ⟨rfl, hM10, hK10⟩
          have HM10 : Hid (IsM 92 bM (smem 3) (reg2 at' value) 0 w10) := hid hM10
          have HB10 := hid (hK10.below HB9.out hMz (Nat.le_refl _))
          clear hM10 hK10 HM9 HB9
          go_wp2_with fail
          refine (pstep_is bM 3 at' _ HM10.out (fun w1 h1 => sstep_out bM 3 at' value hok.out hA3 _ w1 h1 hA4)).mono ?_
          rintro e w11 ⟨rfl, hM11, hK11⟩
          have HM11 := hid hM11
          have HB11 := hid (hK11.below HB10.out hMz (Nat.le_refl _))
          clear hM11 hK11 HM10 HB10
          unfold evV
          have HM12 := hid (HM11.out.alloc (.cells #[.int .i64 3, .int .i64 at'] 56))
          have HV12 := hid (CellsAt.new w11 [.int .i64 3, .int .i64 at'] 56)
          have HB12 := hid (HB11.out.alloc HB11.out.size (.cells #[.int .i64 3, .int .i64 at'] 56))
          clear HM11 HB11
          go_wp2_with fail
          refine (ppc_is bM _ HM12.out).mono ?_
          rintro e w13 ⟨rfl, rfl⟩
          go_wp2_with fail
          go_ret
          exact ⟨rfl, HB12.out⟩
        · by_cases hB : at' < 8
          · have hA2 : 0 ≤ at' := by omega
            have hin : 8 + 2 ^ 3 ≤ 4096 := by decide
            have h8 : 8 ≤ 8 := by decide
            clear hat hr
            go_wp2_with fail
            refine (pset_in bM 2 8 _ HM7.out (by decide)).mono ?_
            rintro e w9 ⟨rfl, hM9, hK9⟩
            have HM9 := hid hM9
            have HB9 := hid (hK9.below HB7.out hMz (Nat.le_refl _))
            clear hM9 hK9
            go_wp2_with fail
            refine (pset_in bM 3 value _ HM9.out (by decide)).mono ?_
            rintro e w10 ⟨rfl, hM10, hK10⟩
            have HM10 : Hid (IsM 92 bM (smem 3) (reg2 ((8 : Nat) : Int) value) 0 w10) := hid hM10
            have HB10 := hid (hK10.below HB9.out hMz (Nat.le_refl _))
            clear hM10 hK10 HM9 HB9
            go_wp2_with fail
            refine (pstep_is bM 0 0 _ HM10.out (fun w1 h1 => sstep_in bM 3 8 value hok.out _ w1 h1 hin)).mono ?_
            rintro e w11 ⟨rfl, hM11, hK11⟩
            have HB11 := hid (hK11.below HB10.out hMz (Nat.le_refl _))
            have HM12 := hid (hM11.alloc (.cells #[.int .i64 0, .int .i64 0] 56))
            have HB12 := hid (HB11.out.alloc HB11.out.size (.cells #[.int .i64 0, .int .i64 0] 56))
            clear hM11 hK11 HM10 HB10 HB11
            unfold evV
            go_wp2_with fail
            generalize w11.alloc _ = W12 at *
            go_loopw [24] (fun i wr => ∃ j : Nat, j ≤ 8 ∧ i = .int .i64 j ∧ wr = W12) (fun i _ => 8 - (intOf i).toNat)
            case atStart => exact ⟨0, by omega, rfl, rfl⟩
            case round =>
              obtain ⟨j, hj, rfl, rfl⟩ := hrel
              by_cases hlt : j < 8
              · have hjs : j = 0 ∨ j = 1 ∨ j = 2 ∨ j = 3 ∨ j = 4 ∨ j = 5 ∨ j = 6 ∨ j = 7 := by omega
                rcases hjs with rfl | rfl | rfl | rfl | rfl | rfl | rfl | rfl
                · have q : (mput (smem 3) 8 (Pn.bytN 8 value))[8]?.getD 0 = Go.bits .and .i64 value 255 := pk_and 3 8 0 value _ (by decide) hin (by simp)
                  go_wp2_with fail
                  refine (ppeek_at bM _ _ HM12.out (by omega) (by omega)).mono ?_
                  rintro e w14 ⟨rfl, rfl⟩
                  go_wp2_with fail
                  go_roundw
                  case rel => exact ⟨1, by omega, by go_num, trivial⟩
                  case measure => simp [intOf]
                · have q : (mput (smem 3) 8 (Pn.bytN 8 value))[9]?.getD 0 = Go.bits .and .i64 (value / 256) 255 := pk_and 3 8 1 value _ (by decide) hin (by rfl)
                  go_wp2_with fail
                  refine (ppeek_at bM _ _ HM12.out (by omega) (by omega)).mono ?_
                  rintro e w14 ⟨rfl, rfl⟩
                  go_wp2_with fail
                  go_roundw
                  case rel => exact ⟨2, by omega, by go_num, trivial⟩
                  case measure => simp [intOf]
                · have q : (mput (smem 3) 8 (Pn.bytN 8 value))[10]?.getD 0 = Go.bits .and .i64 (value / 65536) 255 := pk_and 3 8 2 value _ (by decide) hin (by rfl)
                  go_wp2_with fail
                  refine (ppeek_at bM _ _ HM12.out (by omega) (by omega)).mono ?_
                  rintro e w14 ⟨rfl, rfl⟩
                  go_wp2_with fail
                  go_roundw
                  case rel => exact ⟨3, by omega, by go_num, trivial⟩
                  case measure => simp [intOf]
                · have q : (mput (smem 3) 8 (Pn.bytN 8 value))[11]?.getD 0 = Go.bits .and .i64 (value / 16777216) 255 := pk_and 3 8 3 value _ (by decide) hin (by rfl)
                  go_wp2_with fail
                  refine (ppeek_at bM _ _ HM12.out (by omega) (by omega)).mono ?_
                  rintro e w14 ⟨rfl, rfl⟩
                  go_wp2_with fail
                  go_roundw
                  case rel => exact ⟨4, by omega, by go_num, trivial⟩
                  case measure => simp [intOf]
                · have q : (mput (smem 3) 8 (Pn.bytN 8 value))[12]?.getD 0 = Go.bits .and .i64 (value / 4294967296) 255 := pk_and 3 8 4 value _ (by decide) hin (by rfl)
                  go_wp2_with fail
                  refine (ppeek_at bM _ _ HM12.out (by omega) (by omega)).mono ?_
                  rintro e w14 ⟨rfl, rfl⟩
                  go_wp2_with fail
                  go_roundw
                  case rel => exact ⟨5, by omega, by go_num, trivial⟩
                  case measure => simp [intOf]
                · have q : (mput (smem 3) 8 (Pn.bytN 8 value))[13]?.getD 0 = Go.bits .and .i64 (value / 1099511627776) 255 := pk_and 3 8 5 value _ (by decide) hin (by rfl)
                  go_wp2_with fail
                  refine (ppeek_at bM _ _ HM12.out (by omega) (by omega)).mono ?_
                  rintro e w14 ⟨rfl, rfl⟩
                  go_wp2_with fail
                  go_roundw
                  case rel => exact ⟨6, by omega, by go_num, trivial⟩
                  case measure => simp [intOf]
                · have q : (mput (smem 3) 8 (Pn.bytN 8 value))[14]?.getD 0 = Go.bits .and .i64 (value / 281474976710656) 255 := pk_and 3 8 6 value _ (by decide) hin (by rfl)
                  go_wp2_with fail
                  refine (ppeek_at bM _ _ HM12.out (by omega) (by omega)).mono ?_
                  rintro e w14 ⟨rfl, rfl⟩
                  go_wp2_with fail
                  go_roundw
                  case rel => exact ⟨7, by omega, by go_num, trivial⟩
                  case measure => simp [intOf]
                · have q : (mput (smem 3) 8 (Pn.bytN 8 value))[15]?.getD 0 = Go.bits .and .i64 (value / 72057594037927936) 255 := pk_and 3 8 7 value _ (by decide) hin (by rfl)
                  go_wp2_with fail
                  refine (ppeek_at bM _ _ HM12.out (by omega) (by omega)).mono ?_
                  rintro e w14 ⟨rfl, rfl⟩
                  go_wp2_with fail
                  go_roundw
                  case rel => exact ⟨8, by omega, by go_num, trivial⟩
                  case measure => simp [intOf]
              · have hjn : j = 8 := by omega
                subst hjn
                go_wp2_with fail
                refine (pstep_is bM 0 0 _ HM12.out (fun w1 h1 => lstep bM 3 8 value hok.out _ w1 h1 h8 hin)).mono ?_
                rintro e w15 ⟨rfl, hM15, hK15⟩
                have HB15 := hid (hK15.below HB12.out hMz (Nat.le_refl _))
                have HM16 := hid (hM15.alloc (.cells #[.int .i64 0, .int .i64 0] 56))
                have HB16 := hid (HB15.out.alloc HB15.out.size (.cells #[.int .i64 0, .int .i64 0] 56))
                clear hM15 hK15 HB15
                unfold evV
                go_wp2_with fail
                refine (pget_in bM 4 _ HM16.out (by decide)).mono ?_
                rintro e w17 ⟨rfl, rfl⟩
                have e17 : (rset (reg2 ((8 : Nat) : Int) value) 4 (Pn.sgP ((42 + 3 : Nat) : Int) (IntKind.i64.wrap (value % 2 ^ (8 * 2 ^ 3))))).getD 4 0 = wrap64 value := want3 value hv
                rw [e17]
                go_wp2_with fail
                go_ret
                exact ⟨rfl, HB16.out⟩
          · have hA2 : 0 ≤ at' := by omega
            by_cases hC : at' + 8 ≤ 4096
            · obtain ⟨a, rfl⟩ := Int.eq_ofNat_of_zero_le hA2
              have hin : a + 2 ^ 3 ≤ 4096 := by omega
              have h8 : 8 ≤ a := by omega
              have hw : wrap64 ((a : Int) + 8) = a + 8 := by rw [wrap64_eq]; exact IntWalk.i64_in _ (by omega)
              clear hat hr
              go_wp2_with fail
              refine (pset_in bM 2 a _ HM7.out (by decide)).mono ?_
              rintro e w9 ⟨rfl, hM9, hK9⟩
              have HM9 := hid hM9
              have HB9 := hid (hK9.below HB7.out hMz (Nat.le_refl _))
              clear hM9 hK9
              go_wp2_with fail
              refine (pset_in bM 3 value _ HM9.out (by decide)).mono ?_
              rintro e w10 ⟨rfl, hM10, hK10⟩
              have HM10 : Hid (IsM 92 bM (smem 3) (reg2 ((a : Nat) : Int) value) 0 w10) := hid hM10
              have HB10 := hid (hK10.below HB9.out hMz (Nat.le_refl _))
              clear hM10 hK10 HM9 HB9
              go_wp2_with fail
              refine (pstep_is bM 0 0 _ HM10.out (fun w1 h1 => sstep_in bM 3 a value hok.out _ w1 h1 hin)).mono ?_
              rintro e w11 ⟨rfl, hM11, hK11⟩
              have HB11 := hid (hK11.below HB10.out hMz (Nat.le_refl _))
              have HM12 := hid (hM11.alloc (.cells #[.int .i64 0, .int .i64 0] 56))
              have HB12 := hid (HB11.out.alloc HB11.out.size (.cells #[.int .i64 0, .int .i64 0] 56))
              clear hM11 hK11 HM10 HB10 HB11
              unfold evV
              go_wp2_with fail
              generalize w11.alloc _ = W12 at *
              go_loopw [24] (fun i wr => ∃ j : Nat, j ≤ 8 ∧ i = .int .i64 j ∧ wr = W12) (fun i _ => 8 - (intOf i).toNat)
              case atStart => exact ⟨0, by omega, rfl, rfl⟩
              case round =>
                obtain ⟨j, hj, rfl, rfl⟩ := hrel
                by_cases hlt : j < 8
                · have hjs : j = 0 ∨ j = 1 ∨ j = 2 ∨ j = 3 ∨ j = 4 ∨ j = 5 ∨ j = 6 ∨ j = 7 := by omega
                  rcases hjs with rfl | rfl | rfl | rfl | rfl | rfl | rfl | rfl
                  · have q : (mput (smem 3) a (Pn.bytN 8 value))[a]?.getD 0 = Go.bits .and .i64 value 255 := pk_and 3 a 0 value _ (by decide) hin (by simp)
                    go_wp2_with fail
                    refine (ppeek_at bM _ _ HM12.out (by omega) (by omega)).mono ?_
                    rintro e w14 ⟨rfl, rfl⟩
                    go_wp2_with fail
                    go_roundw
                    case rel => exact ⟨1, by omega, by go_num, trivial⟩
                    case measure => simp [intOf]
                  · have q : (mput (smem 3) a (Pn.bytN 8 value))[a + 1]?.getD 0 = Go.bits .and .i64 (value / 256) 255 := pk_and 3 a 1 value _ (by decide) hin (by rfl)
                    go_wp2_with fail
                    refine (ppeek_at bM _ _ HM12.out (by omega) (by omega)).mono ?_
                    rintro e w14 ⟨rfl, rfl⟩
                    go_wp2_with fail
                    go_roundw
                    case rel => exact ⟨2, by omega, by go_num, trivial⟩
                    case measure => simp [intOf]
                  · have q : (mput (smem 3) a (Pn.bytN 8 value))[a + 2]?.getD 0 = Go.bits .and .i64 (value / 65536) 255 := pk_and 3 a 2 value _ (by decide) hin (by rfl)
                    go_wp2_with fail
                    refine (ppeek_at bM _ _ HM12.out (by omega) (by omega)).mono ?_
                    rintro e w14 ⟨rfl, rfl⟩
                    go_wp2_with fail
                    go_roundw
                    case rel => exact ⟨3, by omega, by go_num, trivial⟩
                    case measure => simp [intOf]
                  · have q : (mput (smem 3) a (Pn.bytN 8 value))[a + 3]?.getD 0 = Go.bits .and .i64 (value / 16777216) 255 := pk_and 3 a 3 value _ (by decide) hin (by rfl)
                    go_wp2_with fail
                    refine (ppeek_at bM _ _ HM12.out (by omega) (by omega)).mono ?_
                    rintro e w14 ⟨rfl, rfl⟩
                    go_wp2_with fail
                    go_roundw
                    case rel => exact ⟨4, by omega, by go_num, trivial⟩
                    case measure => simp [intOf]
                  · have q : (mput (smem 3) a (Pn.bytN 8 value))[a + 4]?.getD 0 = Go.bits .and .i64 (value / 4294967296) 255 := pk_and 3 a 4 value _ (by decide) hin (by rfl)
                    go_wp2_with fail
                    refine (ppeek_at bM _ _ HM12.out (by omega) (by omega)).mono ?_
                    rintro e w14 ⟨rfl, rfl⟩
                    go_wp2_with fail
                    go_roundw
                    case rel => exact ⟨5, by omega, by go_num, trivial⟩
                    case measure => simp [intOf]
                  · have q : (mput (smem 3) a (Pn.bytN 8 value))[a + 5]?.getD 0 = Go.bits .and .i64 (value / 1099511627776) 255 := pk_and 3 a 5 value _ (by decide) hin (by rfl)
                    go_wp2_with fail
                    refine (ppeek_at bM _ _ HM12.out (by omega) (by omega)).mono ?_
                    rintro e w14 ⟨rfl, rfl⟩
                    go_wp2_with fail
                    go_roundw
                    case rel => exact ⟨6, by omega, by go_num, trivial⟩
                    case measure => simp [intOf]
                  · have q : (mput (smem 3) a (Pn.bytN 8 value))[a + 6]?.getD 0 = Go.bits .and .i64 (value / 281474976710656) 255 := pk_and 3 a 6 value _ (by decide) hin (by rfl)
                    go_wp2_with fail
                    refine (ppeek_at bM _ _ HM12.out (by omega) (by omega)).mono ?_
                    rintro e w14 ⟨rfl, rfl⟩
                    go_wp2_with fail
                    go_roundw
                    case rel => exact ⟨7, by omega, by go_num, trivial⟩
                    case measure => simp [intOf]
                  · have q : (mput (smem 3) a (Pn.bytN 8 value))[a + 7]?.getD 0 = Go.bits .and .i64 (value / 72057594037927936) 255 := pk_and 3 a 7 value _ (by decide) hin (by rfl)
                    go_wp2_with fail
                    refine (ppeek_at bM _ _ HM12.out (by omega) (by omega)).mono ?_
                    rintro e w14 ⟨rfl, rfl⟩
                    go_wp2_with fail
                    go_roundw
                    case rel => exact ⟨8, by omega, by go_num, trivial⟩
                    case measure => simp [intOf]
                · have hjn : j = 8 := by omega
                  subst hjn
                  go_wp2_with fail
                  refine (pstep_is bM 0 0 _ HM12.out (fun w1 h1 => lstep bM 3 a value hok.out _ w1 h1 h8 hin)).mono ?_
                  rintro e w15 ⟨rfl, hM15, hK15⟩
                  have HB15 := hid (hK15.below HB12.out hMz (Nat.le_refl _))
                  have HM16 := hid (hM15.alloc (.cells #[.int .i64 0, .int .i64 0] 56))
                  have HB16 := hid (HB15.out.alloc HB15.out.size (.cells #[.int .i64 0, .int .i64 0] 56))
                  clear hM15 hK15 HB15
                  unfold evV
                  go_wp2_with fail
                  refine (pget_in bM 4 _ HM16.out (by decide)).mono ?_
                  rintro e w17 ⟨rfl, rfl⟩
                  have e17 : (rset (reg2 ((a : Nat) : Int) value) 4 (Pn.sgP ((42 + 3 : Nat) : Int) (IntKind.i64.wrap (value % 2 ^ (8 * 2 ^ 3))))).getD 4 0 = wrap64 value := want3 value hv
                  rw [e17]
                  go_wp2_with fail
                  go_ret
                  exact ⟨rfl, HB16.out⟩
            · have hA3 : inB at' := ⟨by omega, by omega⟩
              have hA4 : holdsB at' ((2 ^ 3 : Nat) : Int) = false := by simp [holdsB]; omega
              have hw : wrap64 (at' + 8) = at' + 8 := by rw [wrap64_eq]; exact IntWalk.i64_in _ (by omega)
              have hC2 : 4096 < at' + 8 := by omega
              clear hat hr
              go_wp2_with fail
              refine (pset_in bM 2 at' _ HM7.out (by decide)).mono ?_
              rintro e w9 ⟨rfl, hM9, hK9⟩
              have HM9 := hid hM9
              have HB9 := hid (hK9.below HB7.out hMz (Nat.le_refl _))
              clear hM9 hK9
              go_wp2_with fail
              refine (pset_in bM 3 value _ HM9.out (by decide)).mono ?_
              rintro e w10 ⟨rfl, hM10, hK10⟩
              have HM10 : Hid (IsM 92 bM (smem 3) (reg2 at' value) 0 w10) := hid hM10
              have HB10 := hid (hK10.below HB9.out hMz (Nat.le_refl _))
              clear hM10 hK10 HM9 HB9
              go_wp2_with fail
              refine (pstep_is bM 3 at' _ HM10.out (fun w1 h1 => sstep_out bM 3 at' value hok.out hA3 _ w1 h1 hA4)).mono ?_
              rintro e w11 ⟨rfl, hM11, hK11⟩
              have HM11 := hid hM11
              have HB11 := hid (hK11.below HB10.out hMz (Nat.le_refl _))
              clear hM11 hK11 HM10 HB10
              unfold evV
              have HM12 := hid (HM11.out.alloc (.cells #[.int .i64 3, .int .i64 at'] 56))
              have HV12 := hid (CellsAt.new w11 [.int .i64 3, .int .i64 at'] 56)
              have HB12 := hid (HB11.out.alloc HB11.out.size (.cells #[.int .i64 3, .int .i64 at'] 56))
              clear HM11 HB11
              go_wp2_with fail
              refine (ppc_is bM _ HM12.out).mono ?_
              rintro e w13 ⟨rfl, rfl⟩
              go_wp2_with fail
              go_ret
              exact ⟨rfl, HB12.out⟩

end Go.Proofs.YtbmcofdodfcnnaaGreatDoor
