import Derived.Test.YtbmcofdodfcnnaaGreatDoorBP
import Derived.Test.YtbmcofdodfcnnaaGreatDoorGBC
import Derived.Test.YtbmcofdodfcnnaaGreatDoorGBG
namespace Go.Proofs.YtbmcofdodfcnnaaGreatDoor
open Go.RowKit
set_option maxRecDepth 20000 in
set_option maxHeartbeats 20000000 in
theorem back_is (i : Pn.Ins) (word half : Int) (text : ByteArray) (w : World) (hE : Env w) :
    Calls Tryz.prog 6 #[i.val, .int .i64 word, .int .i64 half, .string text] w fun e w' => e = .returned (.bool true) ∧ Below w.heap.size w w' := by
  have HE := hid hE
  clear hE
  have HIC : Hid (CellsAt w.heap.size (icells i) (w.alloc (.cells (icells i).toArray 26))) := hid (CellsAt.new w (icells i) 26)
  have HB0 : Hid (Below w.heap.size w (w.alloc (.cells (icells i).toArray 26))) := hid ((Below.refl _ _).alloc (Nat.le_refl _) _)
  have HEn := hid (fun w' => pencode_any i w')
  have HSw := hid (fun w' (h : Env w') => pshow_any i w' h)
  have HSt := hid (fun w' => pshort_any reads_all i w')
  have HDw := hid (fun w' => pdecode_any word w')
  have HDE := hid (fun x h => Pn.enc_dec (w := word) (x := x) h)
  have HXh := hid (fun w' => pexpand_any half w')
  have HYS := hid (fun y h => Pn.short_exp (n := half) (y := y) h)
  have HRt := hid (fun w' (h : Env w') => pread_any text w' h)
  have HZR := hid (fun z h => Pn.prd_right (s := text) (z := z) h)
  generalize Pn.dec word = DW at *
  generalize Pn.expP half = XH at *
  generalize Pn.prd text = RT at *
  obtain ⟨⟨xop, xrd, xrs1, xrs2, ximm⟩, dp⟩ := DW
  obtain ⟨⟨yop, yrd, yrs1, yrs2, yimm⟩, yp⟩ := XH
  obtain ⟨⟨zop, zrd, zrs1, zrs2, zimm⟩, zp⟩ := RT
  have HDE : Hid (dp = 0 → Pn.enc ⟨xop, xrd, xrs1, xrs2, ximm⟩ = (word, 0)) := hid (fun e => HDE.out _ (by rw [e]))
  have HYS : Hid (yp = 0 → ∃ v, Pn.shortP ⟨yop, yrd, yrs1, yrs2, yimm⟩ = (v, 0)) := hid (fun e => HYS.out _ (by rw [e]))
  have HZR : Hid (zp = 0 → Pn.right ⟨zop, zrd, zrs1, zrs2, zimm⟩ = true) := hid (fun e => HZR.out _ (by rw [e]))
  unfold Pn.Ins.val at HDw HXh HRt
  simp only at HDw HXh HRt
  by_cases hr : Pn.right i = true
  · obtain ⟨d1, d2, d3, d4, d5⟩ := Pn.dec_enc hr
    obtain ⟨p1, p2⟩ := Pn.prd_show hr
    generalize Pn.enc i = EN at *
    generalize Pn.shw i = SW at *
    obtain ⟨en, ee⟩ := EN
    obtain ⟨sw, se⟩ := SW
    simp only at d1 d2 d3 d4 d5 p1 p2 HEn HSw
    subst d2 p2
    have HDe := hid (fun w' => pdecode_any en w')
    rw [d1] at HDe
    have HRe := hid (fun w' (h : Env w') => pread_any ⟨sw.toArray⟩ w' h)
    rw [p1] at HRe
    clear d1 p1
    have dm : en.tmod 4 = 3 := by rw [Int.tmod_eq_emod_of_nonneg d4]; exact d3
    clear d3
    generalize hS : Pn.shortP i = S at *
    have HSE := hid hS
    clear hS hr
    obtain ⟨sh, sx⟩ := S
    obtain ⟨iop, ird, irs1, irs2, iimm⟩ := i
    unfold Pn.Ins.val icells at *
    simp only at *
    go_enter Tryz.func6, Tryz.ntmps6
    go_wp2_with fail
    generalize w.alloc _ = W0 at *
    refine (awake_is _ (HE.out.below HB0.out HE.out.1)).mono ?_
    rintro e w1 ⟨rfl, hB1⟩
    have HI_1 := hid (HIC.out.next hB1)
    have HB_1 := hid (HB0.out.trans (hB1.mono HB0.out.size))
    clear hB1
    have i0 := HI_1.out.2.2 0 _ rfl
    have i1 := HI_1.out.2.2 1 _ rfl
    have i2 := HI_1.out.2.2 2 _ rfl
    have i3 := HI_1.out.2.2 3 _ rfl
    have i4 := HI_1.out.2.2 4 _ rfl
    go_wp2_with fail
    refine (HEn.out _).mono ?_
    rintro e w2 ⟨rfl, hB2⟩
    have HI_2 := hid (HI_1.out.next hB2)
    have HB_2 := hid (HB_1.out.trans (hB2.mono HB_1.out.size))
    clear hB2
    clear i0 i1 i2 i3 i4 HI_1
    have i0 := HI_2.out.2.2 0 _ rfl
    have i1 := HI_2.out.2.2 1 _ rfl
    have i2 := HI_2.out.2.2 2 _ rfl
    have i3 := HI_2.out.2.2 3 _ rfl
    have i4 := HI_2.out.2.2 4 _ rfl
    go_wp2_with fail
    refine (HSw.out _ (HE.out.below HB_2.out HE.out.1)).mono ?_
    rintro e w3 ⟨rfl, hB3⟩
    have HI_3 := hid (HI_2.out.next hB3)
    have HB_3 := hid (HB_2.out.trans (hB3.mono HB_2.out.size))
    clear hB3
    clear i0 i1 i2 i3 i4 HI_2
    have i0 := HI_3.out.2.2 0 _ rfl
    have i1 := HI_3.out.2.2 1 _ rfl
    have i2 := HI_3.out.2.2 2 _ rfl
    have i3 := HI_3.out.2.2 3 _ rfl
    have i4 := HI_3.out.2.2 4 _ rfl
    go_wp2_with fail
    refine (HSt.out _).mono ?_
    rintro e w4 ⟨rfl, hB4⟩
    have HI_4 := hid (HI_3.out.next hB4)
    have HB_4 := hid (HB_3.out.trans (hB4.mono HB_3.out.size))
    clear hB4
    clear i0 i1 i2 i3 i4 HI_3
    go_wp2_with fail
    refine (HDe.out _).mono ?_
    rintro e w5 ⟨rfl, hB5⟩
    have HI_5 := hid (HI_4.out.next hB5)
    have HB_5 := hid (HB_4.out.trans (hB5.mono HB_4.out.size))
    clear hB5
    have HI_6 := hid (HI_5.out.alloc (.cells #[.int .i64 iop, .int .i64 ird, .int .i64 irs1, .int .i64 irs2, .int .i64 iimm] 26))
    have HA_6 := hid (CellsAt.new w5 [.int .i64 iop, .int .i64 ird, .int .i64 irs1, .int .i64 irs2, .int .i64 iimm] 26)
    have HB_6 := hid (HB_5.out.alloc HB_5.out.size (.cells #[.int .i64 iop, .int .i64 ird, .int .i64 irs1, .int .i64 irs2, .int .i64 iimm] 26))
    go_wp2_with fail
    generalize w5.alloc _ = W6 at *
    refine (HRe.out _ (HE.out.below HB_6.out HE.out.1)).mono ?_
    rintro e w7 ⟨rfl, hB7⟩
    have HI_7 := hid (HI_6.out.next hB7)
    have HA_7 := hid (HA_6.out.next hB7)
    have HB_7 := hid (HB_6.out.trans (hB7.mono HB_6.out.size))
    clear hB7
    have HI_8 := hid (HI_7.out.alloc (.cells #[.int .i64 iop, .int .i64 ird, .int .i64 irs1, .int .i64 irs2, .int .i64 iimm] 26))
    have HA_8 := hid (HA_7.out.alloc (.cells #[.int .i64 iop, .int .i64 ird, .int .i64 irs1, .int .i64 irs2, .int .i64 iimm] 26))
    have HC_8 := hid (CellsAt.new w7 [.int .i64 iop, .int .i64 ird, .int .i64 irs1, .int .i64 irs2, .int .i64 iimm] 26)
    have HB_8 := hid (HB_7.out.alloc HB_7.out.size (.cells #[.int .i64 iop, .int .i64 ird, .int .i64 irs1, .int .i64 irs2, .int .i64 iimm] 26))
    have i0 := HI_8.out.2.2 0 _ rfl
    have i1 := HI_8.out.2.2 1 _ rfl
    have i2 := HI_8.out.2.2 2 _ rfl
    have i3 := HI_8.out.2.2 3 _ rfl
    have i4 := HI_8.out.2.2 4 _ rfl
    have a0 := HA_8.out.2.2 0 _ rfl
    have a1 := HA_8.out.2.2 1 _ rfl
    have a2 := HA_8.out.2.2 2 _ rfl
    have a3 := HA_8.out.2.2 3 _ rfl
    have a4 := HA_8.out.2.2 4 _ rfl
    by_cases hsx : sx = 0
    · subst hsx
      obtain ⟨s1, s2, s3, s4, _⟩ := Pn.exp_short HSE.out
      have HXs := hid (fun w' => pexpand_any sh w')
      rw [s1] at HXs
      unfold Pn.Ins.val at HXs
      simp only at HXs
      have sm : ¬ sh % 4 = 3 := s4
      have smb : (sh % 4 == 3) = false := by simpa using sm
      clear s1 s4
      go_wp2_with fail
      generalize w7.alloc _ = W8 at *
      refine (HXs.out _).mono ?_
      rintro e w9 ⟨rfl, hB9⟩
      have HI_9 := hid (HI_8.out.next hB9)
      have HB_9 := hid (HB_8.out.trans (hB9.mono HB_8.out.size))
      clear hB9
      clear i0 i1 i2 i3 i4 a0 a1 a2 a3 a4
      have HI_10 := hid (HI_9.out.alloc (.cells #[.int .i64 iop, .int .i64 ird, .int .i64 irs1, .int .i64 irs2, .int .i64 iimm] 26))
      have HD_10 := hid (CellsAt.new w9 [.int .i64 iop, .int .i64 ird, .int .i64 irs1, .int .i64 irs2, .int .i64 iimm] 26)
      have HB_10 := hid (HB_9.out.alloc HB_9.out.size (.cells #[.int .i64 iop, .int .i64 ird, .int .i64 irs1, .int .i64 irs2, .int .i64 iimm] 26))
      have i0 := HI_10.out.2.2 0 _ rfl
      have i1 := HI_10.out.2.2 1 _ rfl
      have i2 := HI_10.out.2.2 2 _ rfl
      have i3 := HI_10.out.2.2 3 _ rfl
      have i4 := HI_10.out.2.2 4 _ rfl
      go_wp2_with fail
      generalize w9.alloc _ = W10 at *
      clear i0 i1 i2 i3 i4
      refine (HDw.out _).mono ?_
      rintro e w11 ⟨rfl, hB11⟩
      have HB_11 := hid (HB_10.out.trans (hB11.mono HB_10.out.size))
      clear hB11
      have HN_12 := hid (CellsAt.new w11 [.int .i64 xop, .int .i64 xrd, .int .i64 xrs1, .int .i64 xrs2, .int .i64 ximm] 26)
      have HB_12 := hid (HB_11.out.alloc HB_11.out.size (.cells #[.int .i64 xop, .int .i64 xrd, .int .i64 xrs1, .int .i64 xrs2, .int .i64 ximm] 26))
      by_cases hdp : dp = 0
      · subst hdp
        have HEx := hid (fun w' => pencode_any (Pn.Ins.mk xop xrd xrs1 xrs2 ximm) w')
        rw [HDE.out rfl] at HEx
        unfold Pn.Ins.val at HEx
        simp only at HEx
        go_wp2_with fail
        refine (HEx.out _).mono ?_
        rintro e w13 ⟨rfl, hB13⟩
        have HB_13 := hid (HB_12.out.trans (hB13.mono HB_12.out.size))
        clear hB13
        go_wp2_with fail
        refine (HXh.out _).mono ?_
        rintro e w14 ⟨rfl, hB14⟩
        have HB_14 := hid (HB_13.out.trans (hB14.mono HB_13.out.size))
        clear hB14
        have HN_15 := hid (CellsAt.new w14 [.int .i64 yop, .int .i64 yrd, .int .i64 yrs1, .int .i64 yrs2, .int .i64 yimm] 26)
        have HB_15 := hid (HB_14.out.alloc HB_14.out.size (.cells #[.int .i64 yop, .int .i64 yrd, .int .i64 yrs1, .int .i64 yrs2, .int .i64 yimm] 26))
        by_cases hyp : yp = 0
        · subst hyp
          obtain ⟨v, hv⟩ := HYS.out rfl
          have HSy := hid (fun w' => pshort_any reads_all (Pn.Ins.mk yop yrd yrs1 yrs2 yimm) w')
          rw [hv] at HSy
          have HXy := hid (fun w' => pexpand_any v w')
          rw [(Pn.exp_short hv).1] at HXy
          unfold Pn.Ins.val at HSy HXy
          simp only at HSy HXy
          clear hv
          go_wp2_with fail
          generalize w14.alloc _ = W15 at *
          refine (HSy.out _).mono ?_
          rintro e w16 ⟨rfl, hB16⟩
          have HN_16 := hid (HN_15.out.next hB16)
          have HB_16 := hid (HB_15.out.trans (hB16.mono HB_15.out.size))
          clear hB16
          go_wp2_with fail
          refine (HXy.out _).mono ?_
          rintro e w17 ⟨rfl, hB17⟩
          have HN_17 := hid (HN_16.out.next hB17)
          have HB_17 := hid (HB_16.out.trans (hB17.mono HB_16.out.size))
          clear hB17
          have HN_18 := hid (HN_17.out.alloc (.cells #[.int .i64 yop, .int .i64 yrd, .int .i64 yrs1, .int .i64 yrs2, .int .i64 yimm] 26))
          have HM_18 := hid (CellsAt.new w17 [.int .i64 yop, .int .i64 yrd, .int .i64 yrs1, .int .i64 yrs2, .int .i64 yimm] 26)
          have HB_18 := hid (HB_17.out.alloc HB_17.out.size (.cells #[.int .i64 yop, .int .i64 yrd, .int .i64 yrs1, .int .i64 yrs2, .int .i64 yimm] 26))
          have yc0 := HN_18.out.2.2 0 _ rfl
          have yc1 := HN_18.out.2.2 1 _ rfl
          have yc2 := HN_18.out.2.2 2 _ rfl
          have yc3 := HN_18.out.2.2 3 _ rfl
          have yc4 := HN_18.out.2.2 4 _ rfl
          go_wp2_with fail
          clear yc0 yc1 yc2 yc3 yc4
          refine (HRt.out _ (HE.out.below HB_18.out HE.out.1)).mono ?_
          rintro e w19 ⟨rfl, hB19⟩
          have HB_19 := hid (HB_18.out.trans (hB19.mono HB_18.out.size))
          clear hB19
          have HN_20 := hid (CellsAt.new w19 [.int .i64 zop, .int .i64 zrd, .int .i64 zrs1, .int .i64 zrs2, .int .i64 zimm] 26)
          have HB_20 := hid (HB_19.out.alloc HB_19.out.size (.cells #[.int .i64 zop, .int .i64 zrd, .int .i64 zrs1, .int .i64 zrs2, .int .i64 zimm] 26))
          by_cases hzp : zp = 0
          · subst hzp
            have hzr := HZR.out rfl
            have HSz := hid (fun w' (h : Env w') => pshow_any (Pn.Ins.mk zop zrd zrs1 zrs2 zimm) w' h)
            obtain ⟨q1, q2⟩ := Pn.prd_show hzr
            generalize Pn.shw (Pn.Ins.mk zop zrd zrs1 zrs2 zimm) = ZS at *
            obtain ⟨zs, ze⟩ := ZS
            simp only at q1 q2 HSz
            subst q2
            have HRz := hid (fun w' (h : Env w') => pread_any ⟨zs.toArray⟩ w' h)
            rw [q1] at HRz
            unfold Pn.Ins.val at HSz HRz
            simp only at HSz HRz
            clear q1 hzr
            go_wp2_with fail
            generalize w19.alloc _ = W20 at *
            refine (HSz.out _ (HE.out.below HB_20.out HE.out.1)).mono ?_
            rintro e w21 ⟨rfl, hB21⟩
            have HN_21 := hid (HN_20.out.next hB21)
            have HB_21 := hid (HB_20.out.trans (hB21.mono HB_20.out.size))
            clear hB21
            go_wp2_with fail
            refine (HRz.out _ (HE.out.below HB_21.out HE.out.1)).mono ?_
            rintro e w22 ⟨rfl, hB22⟩
            have HN_22 := hid (HN_21.out.next hB22)
            have HB_22 := hid (HB_21.out.trans (hB22.mono HB_21.out.size))
            clear hB22
            have HN_23 := hid (HN_22.out.alloc (.cells #[.int .i64 zop, .int .i64 zrd, .int .i64 zrs1, .int .i64 zrs2, .int .i64 zimm] 26))
            have HM_23 := hid (CellsAt.new w22 [.int .i64 zop, .int .i64 zrd, .int .i64 zrs1, .int .i64 zrs2, .int .i64 zimm] 26)
            have HB_23 := hid (HB_22.out.alloc HB_22.out.size (.cells #[.int .i64 zop, .int .i64 zrd, .int .i64 zrs1, .int .i64 zrs2, .int .i64 zimm] 26))
            have vc0 := HN_23.out.2.2 0 _ rfl
            have vc1 := HN_23.out.2.2 1 _ rfl
            have vc2 := HN_23.out.2.2 2 _ rfl
            have vc3 := HN_23.out.2.2 3 _ rfl
            have vc4 := HN_23.out.2.2 4 _ rfl
            go_wp2_with fail
            go_ret
            exact ⟨rfl, HB_23.out⟩
          · go_wp2_with fail
            go_ret
            exact ⟨rfl, HB_20.out⟩
        · go_wp2_with fail
          refine (HRt.out _ (HE.out.below HB_15.out HE.out.1)).mono ?_
          rintro e w24 ⟨rfl, hB24⟩
          have HB_24 := hid (HB_15.out.trans (hB24.mono HB_15.out.size))
          clear hB24
          have HN_25 := hid (CellsAt.new w24 [.int .i64 zop, .int .i64 zrd, .int .i64 zrs1, .int .i64 zrs2, .int .i64 zimm] 26)
          have HB_25 := hid (HB_24.out.alloc HB_24.out.size (.cells #[.int .i64 zop, .int .i64 zrd, .int .i64 zrs1, .int .i64 zrs2, .int .i64 zimm] 26))
          by_cases hzp : zp = 0
          · subst hzp
            have hzr := HZR.out rfl
            have HSz := hid (fun w' (h : Env w') => pshow_any (Pn.Ins.mk zop zrd zrs1 zrs2 zimm) w' h)
            obtain ⟨q1, q2⟩ := Pn.prd_show hzr
            generalize Pn.shw (Pn.Ins.mk zop zrd zrs1 zrs2 zimm) = ZS at *
            obtain ⟨zs, ze⟩ := ZS
            simp only at q1 q2 HSz
            subst q2
            have HRz := hid (fun w' (h : Env w') => pread_any ⟨zs.toArray⟩ w' h)
            rw [q1] at HRz
            unfold Pn.Ins.val at HSz HRz
            simp only at HSz HRz
            clear q1 hzr
            go_wp2_with fail
            generalize w24.alloc _ = W25 at *
            refine (HSz.out _ (HE.out.below HB_25.out HE.out.1)).mono ?_
            rintro e w26 ⟨rfl, hB26⟩
            have HN_26 := hid (HN_25.out.next hB26)
            have HB_26 := hid (HB_25.out.trans (hB26.mono HB_25.out.size))
            clear hB26
            go_wp2_with fail
            refine (HRz.out _ (HE.out.below HB_26.out HE.out.1)).mono ?_
            rintro e w27 ⟨rfl, hB27⟩
            have HN_27 := hid (HN_26.out.next hB27)
            have HB_27 := hid (HB_26.out.trans (hB27.mono HB_26.out.size))
            clear hB27
            have HN_28 := hid (HN_27.out.alloc (.cells #[.int .i64 zop, .int .i64 zrd, .int .i64 zrs1, .int .i64 zrs2, .int .i64 zimm] 26))
            have HM_28 := hid (CellsAt.new w27 [.int .i64 zop, .int .i64 zrd, .int .i64 zrs1, .int .i64 zrs2, .int .i64 zimm] 26)
            have HB_28 := hid (HB_27.out.alloc HB_27.out.size (.cells #[.int .i64 zop, .int .i64 zrd, .int .i64 zrs1, .int .i64 zrs2, .int .i64 zimm] 26))
            have vc0 := HN_28.out.2.2 0 _ rfl
            have vc1 := HN_28.out.2.2 1 _ rfl
            have vc2 := HN_28.out.2.2 2 _ rfl
            have vc3 := HN_28.out.2.2 3 _ rfl
            have vc4 := HN_28.out.2.2 4 _ rfl
            go_wp2_with fail
            go_ret
            exact ⟨rfl, HB_28.out⟩
          · go_wp2_with fail
            go_ret
            exact ⟨rfl, HB_25.out⟩
      · go_wp2_with fail
        refine (HXh.out _).mono ?_
        rintro e w29 ⟨rfl, hB29⟩
        have HB_29 := hid (HB_12.out.trans (hB29.mono HB_12.out.size))
        clear hB29
        have HN_30 := hid (CellsAt.new w29 [.int .i64 yop, .int .i64 yrd, .int .i64 yrs1, .int .i64 yrs2, .int .i64 yimm] 26)
        have HB_30 := hid (HB_29.out.alloc HB_29.out.size (.cells #[.int .i64 yop, .int .i64 yrd, .int .i64 yrs1, .int .i64 yrs2, .int .i64 yimm] 26))
        by_cases hyp : yp = 0
        · subst hyp
          obtain ⟨v, hv⟩ := HYS.out rfl
          have HSy := hid (fun w' => pshort_any reads_all (Pn.Ins.mk yop yrd yrs1 yrs2 yimm) w')
          rw [hv] at HSy
          have HXy := hid (fun w' => pexpand_any v w')
          rw [(Pn.exp_short hv).1] at HXy
          unfold Pn.Ins.val at HSy HXy
          simp only at HSy HXy
          clear hv
          go_wp2_with fail
          generalize w29.alloc _ = W30 at *
          refine (HSy.out _).mono ?_
          rintro e w31 ⟨rfl, hB31⟩
          have HN_31 := hid (HN_30.out.next hB31)
          have HB_31 := hid (HB_30.out.trans (hB31.mono HB_30.out.size))
          clear hB31
          go_wp2_with fail
          refine (HXy.out _).mono ?_
          rintro e w32 ⟨rfl, hB32⟩
          have HN_32 := hid (HN_31.out.next hB32)
          have HB_32 := hid (HB_31.out.trans (hB32.mono HB_31.out.size))
          clear hB32
          have HN_33 := hid (HN_32.out.alloc (.cells #[.int .i64 yop, .int .i64 yrd, .int .i64 yrs1, .int .i64 yrs2, .int .i64 yimm] 26))
          have HM_33 := hid (CellsAt.new w32 [.int .i64 yop, .int .i64 yrd, .int .i64 yrs1, .int .i64 yrs2, .int .i64 yimm] 26)
          have HB_33 := hid (HB_32.out.alloc HB_32.out.size (.cells #[.int .i64 yop, .int .i64 yrd, .int .i64 yrs1, .int .i64 yrs2, .int .i64 yimm] 26))
          have yc0 := HN_33.out.2.2 0 _ rfl
          have yc1 := HN_33.out.2.2 1 _ rfl
          have yc2 := HN_33.out.2.2 2 _ rfl
          have yc3 := HN_33.out.2.2 3 _ rfl
          have yc4 := HN_33.out.2.2 4 _ rfl
          go_wp2_with fail
          clear yc0 yc1 yc2 yc3 yc4
          refine (HRt.out _ (HE.out.below HB_33.out HE.out.1)).mono ?_
          rintro e w34 ⟨rfl, hB34⟩
          have HB_34 := hid (HB_33.out.trans (hB34.mono HB_33.out.size))
          clear hB34
          have HN_35 := hid (CellsAt.new w34 [.int .i64 zop, .int .i64 zrd, .int .i64 zrs1, .int .i64 zrs2, .int .i64 zimm] 26)
          have HB_35 := hid (HB_34.out.alloc HB_34.out.size (.cells #[.int .i64 zop, .int .i64 zrd, .int .i64 zrs1, .int .i64 zrs2, .int .i64 zimm] 26))
          by_cases hzp : zp = 0
          · subst hzp
            have hzr := HZR.out rfl
            have HSz := hid (fun w' (h : Env w') => pshow_any (Pn.Ins.mk zop zrd zrs1 zrs2 zimm) w' h)
            obtain ⟨q1, q2⟩ := Pn.prd_show hzr
            generalize Pn.shw (Pn.Ins.mk zop zrd zrs1 zrs2 zimm) = ZS at *
            obtain ⟨zs, ze⟩ := ZS
            simp only at q1 q2 HSz
            subst q2
            have HRz := hid (fun w' (h : Env w') => pread_any ⟨zs.toArray⟩ w' h)
            rw [q1] at HRz
            unfold Pn.Ins.val at HSz HRz
            simp only at HSz HRz
            clear q1 hzr
            go_wp2_with fail
            generalize w34.alloc _ = W35 at *
            refine (HSz.out _ (HE.out.below HB_35.out HE.out.1)).mono ?_
            rintro e w36 ⟨rfl, hB36⟩
            have HN_36 := hid (HN_35.out.next hB36)
            have HB_36 := hid (HB_35.out.trans (hB36.mono HB_35.out.size))
            clear hB36
            go_wp2_with fail
            refine (HRz.out _ (HE.out.below HB_36.out HE.out.1)).mono ?_
            rintro e w37 ⟨rfl, hB37⟩
            have HN_37 := hid (HN_36.out.next hB37)
            have HB_37 := hid (HB_36.out.trans (hB37.mono HB_36.out.size))
            clear hB37
            have HN_38 := hid (HN_37.out.alloc (.cells #[.int .i64 zop, .int .i64 zrd, .int .i64 zrs1, .int .i64 zrs2, .int .i64 zimm] 26))
            have HM_38 := hid (CellsAt.new w37 [.int .i64 zop, .int .i64 zrd, .int .i64 zrs1, .int .i64 zrs2, .int .i64 zimm] 26)
            have HB_38 := hid (HB_37.out.alloc HB_37.out.size (.cells #[.int .i64 zop, .int .i64 zrd, .int .i64 zrs1, .int .i64 zrs2, .int .i64 zimm] 26))
            have vc0 := HN_38.out.2.2 0 _ rfl
            have vc1 := HN_38.out.2.2 1 _ rfl
            have vc2 := HN_38.out.2.2 2 _ rfl
            have vc3 := HN_38.out.2.2 3 _ rfl
            have vc4 := HN_38.out.2.2 4 _ rfl
            go_wp2_with fail
            go_ret
            exact ⟨rfl, HB_38.out⟩
          · go_wp2_with fail
            go_ret
            exact ⟨rfl, HB_35.out⟩
        · go_wp2_with fail
          refine (HRt.out _ (HE.out.below HB_30.out HE.out.1)).mono ?_
          rintro e w39 ⟨rfl, hB39⟩
          have HB_39 := hid (HB_30.out.trans (hB39.mono HB_30.out.size))
          clear hB39
          have HN_40 := hid (CellsAt.new w39 [.int .i64 zop, .int .i64 zrd, .int .i64 zrs1, .int .i64 zrs2, .int .i64 zimm] 26)
          have HB_40 := hid (HB_39.out.alloc HB_39.out.size (.cells #[.int .i64 zop, .int .i64 zrd, .int .i64 zrs1, .int .i64 zrs2, .int .i64 zimm] 26))
          by_cases hzp : zp = 0
          · subst hzp
            have hzr := HZR.out rfl
            have HSz := hid (fun w' (h : Env w') => pshow_any (Pn.Ins.mk zop zrd zrs1 zrs2 zimm) w' h)
            obtain ⟨q1, q2⟩ := Pn.prd_show hzr
            generalize Pn.shw (Pn.Ins.mk zop zrd zrs1 zrs2 zimm) = ZS at *
            obtain ⟨zs, ze⟩ := ZS
            simp only at q1 q2 HSz
            subst q2
            have HRz := hid (fun w' (h : Env w') => pread_any ⟨zs.toArray⟩ w' h)
            rw [q1] at HRz
            unfold Pn.Ins.val at HSz HRz
            simp only at HSz HRz
            clear q1 hzr
            go_wp2_with fail
            generalize w39.alloc _ = W40 at *
            refine (HSz.out _ (HE.out.below HB_40.out HE.out.1)).mono ?_
            rintro e w41 ⟨rfl, hB41⟩
            have HN_41 := hid (HN_40.out.next hB41)
            have HB_41 := hid (HB_40.out.trans (hB41.mono HB_40.out.size))
            clear hB41
            go_wp2_with fail
            refine (HRz.out _ (HE.out.below HB_41.out HE.out.1)).mono ?_
            rintro e w42 ⟨rfl, hB42⟩
            have HN_42 := hid (HN_41.out.next hB42)
            have HB_42 := hid (HB_41.out.trans (hB42.mono HB_41.out.size))
            clear hB42
            have HN_43 := hid (HN_42.out.alloc (.cells #[.int .i64 zop, .int .i64 zrd, .int .i64 zrs1, .int .i64 zrs2, .int .i64 zimm] 26))
            have HM_43 := hid (CellsAt.new w42 [.int .i64 zop, .int .i64 zrd, .int .i64 zrs1, .int .i64 zrs2, .int .i64 zimm] 26)
            have HB_43 := hid (HB_42.out.alloc HB_42.out.size (.cells #[.int .i64 zop, .int .i64 zrd, .int .i64 zrs1, .int .i64 zrs2, .int .i64 zimm] 26))
            have vc0 := HN_43.out.2.2 0 _ rfl
            have vc1 := HN_43.out.2.2 1 _ rfl
            have vc2 := HN_43.out.2.2 2 _ rfl
            have vc3 := HN_43.out.2.2 3 _ rfl
            have vc4 := HN_43.out.2.2 4 _ rfl
            go_wp2_with fail
            go_ret
            exact ⟨rfl, HB_43.out⟩
          · go_wp2_with fail
            go_ret
            exact ⟨rfl, HB_40.out⟩
    · go_wp2_with fail
      generalize w7.alloc _ = W8 at *
      clear i0 i1 i2 i3 i4 a0 a1 a2 a3 a4
      refine (HDw.out _).mono ?_
      rintro e w44 ⟨rfl, hB44⟩
      have HB_44 := hid (HB_8.out.trans (hB44.mono HB_8.out.size))
      clear hB44
      have HN_45 := hid (CellsAt.new w44 [.int .i64 xop, .int .i64 xrd, .int .i64 xrs1, .int .i64 xrs2, .int .i64 ximm] 26)
      have HB_45 := hid (HB_44.out.alloc HB_44.out.size (.cells #[.int .i64 xop, .int .i64 xrd, .int .i64 xrs1, .int .i64 xrs2, .int .i64 ximm] 26))
      by_cases hdp : dp = 0
      · subst hdp
        have HEx := hid (fun w' => pencode_any (Pn.Ins.mk xop xrd xrs1 xrs2 ximm) w')
        rw [HDE.out rfl] at HEx
        unfold Pn.Ins.val at HEx
        simp only at HEx
        go_wp2_with fail
        refine (HEx.out _).mono ?_
        rintro e w46 ⟨rfl, hB46⟩
        have HB_46 := hid (HB_45.out.trans (hB46.mono HB_45.out.size))
        clear hB46
        go_wp2_with fail
        refine (HXh.out _).mono ?_
        rintro e w47 ⟨rfl, hB47⟩
        have HB_47 := hid (HB_46.out.trans (hB47.mono HB_46.out.size))
        clear hB47
        have HN_48 := hid (CellsAt.new w47 [.int .i64 yop, .int .i64 yrd, .int .i64 yrs1, .int .i64 yrs2, .int .i64 yimm] 26)
        have HB_48 := hid (HB_47.out.alloc HB_47.out.size (.cells #[.int .i64 yop, .int .i64 yrd, .int .i64 yrs1, .int .i64 yrs2, .int .i64 yimm] 26))
        by_cases hyp : yp = 0
        · subst hyp
          obtain ⟨v, hv⟩ := HYS.out rfl
          have HSy := hid (fun w' => pshort_any reads_all (Pn.Ins.mk yop yrd yrs1 yrs2 yimm) w')
          rw [hv] at HSy
          have HXy := hid (fun w' => pexpand_any v w')
          rw [(Pn.exp_short hv).1] at HXy
          unfold Pn.Ins.val at HSy HXy
          simp only at HSy HXy
          clear hv
          go_wp2_with fail
          generalize w47.alloc _ = W48 at *
          refine (HSy.out _).mono ?_
          rintro e w49 ⟨rfl, hB49⟩
          have HN_49 := hid (HN_48.out.next hB49)
          have HB_49 := hid (HB_48.out.trans (hB49.mono HB_48.out.size))
          clear hB49
          go_wp2_with fail
          refine (HXy.out _).mono ?_
          rintro e w50 ⟨rfl, hB50⟩
          have HN_50 := hid (HN_49.out.next hB50)
          have HB_50 := hid (HB_49.out.trans (hB50.mono HB_49.out.size))
          clear hB50
          have HN_51 := hid (HN_50.out.alloc (.cells #[.int .i64 yop, .int .i64 yrd, .int .i64 yrs1, .int .i64 yrs2, .int .i64 yimm] 26))
          have HM_51 := hid (CellsAt.new w50 [.int .i64 yop, .int .i64 yrd, .int .i64 yrs1, .int .i64 yrs2, .int .i64 yimm] 26)
          have HB_51 := hid (HB_50.out.alloc HB_50.out.size (.cells #[.int .i64 yop, .int .i64 yrd, .int .i64 yrs1, .int .i64 yrs2, .int .i64 yimm] 26))
          have yc0 := HN_51.out.2.2 0 _ rfl
          have yc1 := HN_51.out.2.2 1 _ rfl
          have yc2 := HN_51.out.2.2 2 _ rfl
          have yc3 := HN_51.out.2.2 3 _ rfl
          have yc4 := HN_51.out.2.2 4 _ rfl
          go_wp2_with fail
          clear yc0 yc1 yc2 yc3 yc4
          refine (HRt.out _ (HE.out.below HB_51.out HE.out.1)).mono ?_
          rintro e w52 ⟨rfl, hB52⟩
          have HB_52 := hid (HB_51.out.trans (hB52.mono HB_51.out.size))
          clear hB52
          have HN_53 := hid (CellsAt.new w52 [.int .i64 zop, .int .i64 zrd, .int .i64 zrs1, .int .i64 zrs2, .int .i64 zimm] 26)
          have HB_53 := hid (HB_52.out.alloc HB_52.out.size (.cells #[.int .i64 zop, .int .i64 zrd, .int .i64 zrs1, .int .i64 zrs2, .int .i64 zimm] 26))
          by_cases hzp : zp = 0
          · subst hzp
            have hzr := HZR.out rfl
            have HSz := hid (fun w' (h : Env w') => pshow_any (Pn.Ins.mk zop zrd zrs1 zrs2 zimm) w' h)
            obtain ⟨q1, q2⟩ := Pn.prd_show hzr
            generalize Pn.shw (Pn.Ins.mk zop zrd zrs1 zrs2 zimm) = ZS at *
            obtain ⟨zs, ze⟩ := ZS
            simp only at q1 q2 HSz
            subst q2
            have HRz := hid (fun w' (h : Env w') => pread_any ⟨zs.toArray⟩ w' h)
            rw [q1] at HRz
            unfold Pn.Ins.val at HSz HRz
            simp only at HSz HRz
            clear q1 hzr
            go_wp2_with fail
            generalize w52.alloc _ = W53 at *
            refine (HSz.out _ (HE.out.below HB_53.out HE.out.1)).mono ?_
            rintro e w54 ⟨rfl, hB54⟩
            have HN_54 := hid (HN_53.out.next hB54)
            have HB_54 := hid (HB_53.out.trans (hB54.mono HB_53.out.size))
            clear hB54
            go_wp2_with fail
            refine (HRz.out _ (HE.out.below HB_54.out HE.out.1)).mono ?_
            rintro e w55 ⟨rfl, hB55⟩
            have HN_55 := hid (HN_54.out.next hB55)
            have HB_55 := hid (HB_54.out.trans (hB55.mono HB_54.out.size))
            clear hB55
            have HN_56 := hid (HN_55.out.alloc (.cells #[.int .i64 zop, .int .i64 zrd, .int .i64 zrs1, .int .i64 zrs2, .int .i64 zimm] 26))
            have HM_56 := hid (CellsAt.new w55 [.int .i64 zop, .int .i64 zrd, .int .i64 zrs1, .int .i64 zrs2, .int .i64 zimm] 26)
            have HB_56 := hid (HB_55.out.alloc HB_55.out.size (.cells #[.int .i64 zop, .int .i64 zrd, .int .i64 zrs1, .int .i64 zrs2, .int .i64 zimm] 26))
            have vc0 := HN_56.out.2.2 0 _ rfl
            have vc1 := HN_56.out.2.2 1 _ rfl
            have vc2 := HN_56.out.2.2 2 _ rfl
            have vc3 := HN_56.out.2.2 3 _ rfl
            have vc4 := HN_56.out.2.2 4 _ rfl
            go_wp2_with fail
            go_ret
            exact ⟨rfl, HB_56.out⟩
          · go_wp2_with fail
            go_ret
            exact ⟨rfl, HB_53.out⟩
        · go_wp2_with fail
          refine (HRt.out _ (HE.out.below HB_48.out HE.out.1)).mono ?_
          rintro e w57 ⟨rfl, hB57⟩
          have HB_57 := hid (HB_48.out.trans (hB57.mono HB_48.out.size))
          clear hB57
          have HN_58 := hid (CellsAt.new w57 [.int .i64 zop, .int .i64 zrd, .int .i64 zrs1, .int .i64 zrs2, .int .i64 zimm] 26)
          have HB_58 := hid (HB_57.out.alloc HB_57.out.size (.cells #[.int .i64 zop, .int .i64 zrd, .int .i64 zrs1, .int .i64 zrs2, .int .i64 zimm] 26))
          by_cases hzp : zp = 0
          · subst hzp
            have hzr := HZR.out rfl
            have HSz := hid (fun w' (h : Env w') => pshow_any (Pn.Ins.mk zop zrd zrs1 zrs2 zimm) w' h)
            obtain ⟨q1, q2⟩ := Pn.prd_show hzr
            generalize Pn.shw (Pn.Ins.mk zop zrd zrs1 zrs2 zimm) = ZS at *
            obtain ⟨zs, ze⟩ := ZS
            simp only at q1 q2 HSz
            subst q2
            have HRz := hid (fun w' (h : Env w') => pread_any ⟨zs.toArray⟩ w' h)
            rw [q1] at HRz
            unfold Pn.Ins.val at HSz HRz
            simp only at HSz HRz
            clear q1 hzr
            go_wp2_with fail
            generalize w57.alloc _ = W58 at *
            refine (HSz.out _ (HE.out.below HB_58.out HE.out.1)).mono ?_
            rintro e w59 ⟨rfl, hB59⟩
            have HN_59 := hid (HN_58.out.next hB59)
            have HB_59 := hid (HB_58.out.trans (hB59.mono HB_58.out.size))
            clear hB59
            go_wp2_with fail
            refine (HRz.out _ (HE.out.below HB_59.out HE.out.1)).mono ?_
            rintro e w60 ⟨rfl, hB60⟩
            have HN_60 := hid (HN_59.out.next hB60)
            have HB_60 := hid (HB_59.out.trans (hB60.mono HB_59.out.size))
            clear hB60
            have HN_61 := hid (HN_60.out.alloc (.cells #[.int .i64 zop, .int .i64 zrd, .int .i64 zrs1, .int .i64 zrs2, .int .i64 zimm] 26))
            have HM_61 := hid (CellsAt.new w60 [.int .i64 zop, .int .i64 zrd, .int .i64 zrs1, .int .i64 zrs2, .int .i64 zimm] 26)
            have HB_61 := hid (HB_60.out.alloc HB_60.out.size (.cells #[.int .i64 zop, .int .i64 zrd, .int .i64 zrs1, .int .i64 zrs2, .int .i64 zimm] 26))
            have vc0 := HN_61.out.2.2 0 _ rfl
            have vc1 := HN_61.out.2.2 1 _ rfl
            have vc2 := HN_61.out.2.2 2 _ rfl
            have vc3 := HN_61.out.2.2 3 _ rfl
            have vc4 := HN_61.out.2.2 4 _ rfl
            go_wp2_with fail
            go_ret
            exact ⟨rfl, HB_61.out⟩
          · go_wp2_with fail
            go_ret
            exact ⟨rfl, HB_58.out⟩
      · go_wp2_with fail
        refine (HXh.out _).mono ?_
        rintro e w62 ⟨rfl, hB62⟩
        have HB_62 := hid (HB_45.out.trans (hB62.mono HB_45.out.size))
        clear hB62
        have HN_63 := hid (CellsAt.new w62 [.int .i64 yop, .int .i64 yrd, .int .i64 yrs1, .int .i64 yrs2, .int .i64 yimm] 26)
        have HB_63 := hid (HB_62.out.alloc HB_62.out.size (.cells #[.int .i64 yop, .int .i64 yrd, .int .i64 yrs1, .int .i64 yrs2, .int .i64 yimm] 26))
        by_cases hyp : yp = 0
        · subst hyp
          obtain ⟨v, hv⟩ := HYS.out rfl
          have HSy := hid (fun w' => pshort_any reads_all (Pn.Ins.mk yop yrd yrs1 yrs2 yimm) w')
          rw [hv] at HSy
          have HXy := hid (fun w' => pexpand_any v w')
          rw [(Pn.exp_short hv).1] at HXy
          unfold Pn.Ins.val at HSy HXy
          simp only at HSy HXy
          clear hv
          go_wp2_with fail
          generalize w62.alloc _ = W63 at *
          refine (HSy.out _).mono ?_
          rintro e w64 ⟨rfl, hB64⟩
          have HN_64 := hid (HN_63.out.next hB64)
          have HB_64 := hid (HB_63.out.trans (hB64.mono HB_63.out.size))
          clear hB64
          go_wp2_with fail
          refine (HXy.out _).mono ?_
          rintro e w65 ⟨rfl, hB65⟩
          have HN_65 := hid (HN_64.out.next hB65)
          have HB_65 := hid (HB_64.out.trans (hB65.mono HB_64.out.size))
          clear hB65
          have HN_66 := hid (HN_65.out.alloc (.cells #[.int .i64 yop, .int .i64 yrd, .int .i64 yrs1, .int .i64 yrs2, .int .i64 yimm] 26))
          have HM_66 := hid (CellsAt.new w65 [.int .i64 yop, .int .i64 yrd, .int .i64 yrs1, .int .i64 yrs2, .int .i64 yimm] 26)
          have HB_66 := hid (HB_65.out.alloc HB_65.out.size (.cells #[.int .i64 yop, .int .i64 yrd, .int .i64 yrs1, .int .i64 yrs2, .int .i64 yimm] 26))
          have yc0 := HN_66.out.2.2 0 _ rfl
          have yc1 := HN_66.out.2.2 1 _ rfl
          have yc2 := HN_66.out.2.2 2 _ rfl
          have yc3 := HN_66.out.2.2 3 _ rfl
          have yc4 := HN_66.out.2.2 4 _ rfl
          go_wp2_with fail
          clear yc0 yc1 yc2 yc3 yc4
          refine (HRt.out _ (HE.out.below HB_66.out HE.out.1)).mono ?_
          rintro e w67 ⟨rfl, hB67⟩
          have HB_67 := hid (HB_66.out.trans (hB67.mono HB_66.out.size))
          clear hB67
          have HN_68 := hid (CellsAt.new w67 [.int .i64 zop, .int .i64 zrd, .int .i64 zrs1, .int .i64 zrs2, .int .i64 zimm] 26)
          have HB_68 := hid (HB_67.out.alloc HB_67.out.size (.cells #[.int .i64 zop, .int .i64 zrd, .int .i64 zrs1, .int .i64 zrs2, .int .i64 zimm] 26))
          by_cases hzp : zp = 0
          · subst hzp
            have hzr := HZR.out rfl
            have HSz := hid (fun w' (h : Env w') => pshow_any (Pn.Ins.mk zop zrd zrs1 zrs2 zimm) w' h)
            obtain ⟨q1, q2⟩ := Pn.prd_show hzr
            generalize Pn.shw (Pn.Ins.mk zop zrd zrs1 zrs2 zimm) = ZS at *
            obtain ⟨zs, ze⟩ := ZS
            simp only at q1 q2 HSz
            subst q2
            have HRz := hid (fun w' (h : Env w') => pread_any ⟨zs.toArray⟩ w' h)
            rw [q1] at HRz
            unfold Pn.Ins.val at HSz HRz
            simp only at HSz HRz
            clear q1 hzr
            go_wp2_with fail
            generalize w67.alloc _ = W68 at *
            refine (HSz.out _ (HE.out.below HB_68.out HE.out.1)).mono ?_
            rintro e w69 ⟨rfl, hB69⟩
            have HN_69 := hid (HN_68.out.next hB69)
            have HB_69 := hid (HB_68.out.trans (hB69.mono HB_68.out.size))
            clear hB69
            go_wp2_with fail
            refine (HRz.out _ (HE.out.below HB_69.out HE.out.1)).mono ?_
            rintro e w70 ⟨rfl, hB70⟩
            have HN_70 := hid (HN_69.out.next hB70)
            have HB_70 := hid (HB_69.out.trans (hB70.mono HB_69.out.size))
            clear hB70
            have HN_71 := hid (HN_70.out.alloc (.cells #[.int .i64 zop, .int .i64 zrd, .int .i64 zrs1, .int .i64 zrs2, .int .i64 zimm] 26))
            have HM_71 := hid (CellsAt.new w70 [.int .i64 zop, .int .i64 zrd, .int .i64 zrs1, .int .i64 zrs2, .int .i64 zimm] 26)
            have HB_71 := hid (HB_70.out.alloc HB_70.out.size (.cells #[.int .i64 zop, .int .i64 zrd, .int .i64 zrs1, .int .i64 zrs2, .int .i64 zimm] 26))
            have vc0 := HN_71.out.2.2 0 _ rfl
            have vc1 := HN_71.out.2.2 1 _ rfl
            have vc2 := HN_71.out.2.2 2 _ rfl
            have vc3 := HN_71.out.2.2 3 _ rfl
            have vc4 := HN_71.out.2.2 4 _ rfl
            go_wp2_with fail
            go_ret
            exact ⟨rfl, HB_71.out⟩
          · go_wp2_with fail
            go_ret
            exact ⟨rfl, HB_68.out⟩
        · go_wp2_with fail
          refine (HRt.out _ (HE.out.below HB_63.out HE.out.1)).mono ?_
          rintro e w72 ⟨rfl, hB72⟩
          have HB_72 := hid (HB_63.out.trans (hB72.mono HB_63.out.size))
          clear hB72
          have HN_73 := hid (CellsAt.new w72 [.int .i64 zop, .int .i64 zrd, .int .i64 zrs1, .int .i64 zrs2, .int .i64 zimm] 26)
          have HB_73 := hid (HB_72.out.alloc HB_72.out.size (.cells #[.int .i64 zop, .int .i64 zrd, .int .i64 zrs1, .int .i64 zrs2, .int .i64 zimm] 26))
          by_cases hzp : zp = 0
          · subst hzp
            have hzr := HZR.out rfl
            have HSz := hid (fun w' (h : Env w') => pshow_any (Pn.Ins.mk zop zrd zrs1 zrs2 zimm) w' h)
            obtain ⟨q1, q2⟩ := Pn.prd_show hzr
            generalize Pn.shw (Pn.Ins.mk zop zrd zrs1 zrs2 zimm) = ZS at *
            obtain ⟨zs, ze⟩ := ZS
            simp only at q1 q2 HSz
            subst q2
            have HRz := hid (fun w' (h : Env w') => pread_any ⟨zs.toArray⟩ w' h)
            rw [q1] at HRz
            unfold Pn.Ins.val at HSz HRz
            simp only at HSz HRz
            clear q1 hzr
            go_wp2_with fail
            generalize w72.alloc _ = W73 at *
            refine (HSz.out _ (HE.out.below HB_73.out HE.out.1)).mono ?_
            rintro e w74 ⟨rfl, hB74⟩
            have HN_74 := hid (HN_73.out.next hB74)
            have HB_74 := hid (HB_73.out.trans (hB74.mono HB_73.out.size))
            clear hB74
            go_wp2_with fail
            refine (HRz.out _ (HE.out.below HB_74.out HE.out.1)).mono ?_
            rintro e w75 ⟨rfl, hB75⟩
            have HN_75 := hid (HN_74.out.next hB75)
            have HB_75 := hid (HB_74.out.trans (hB75.mono HB_74.out.size))
            clear hB75
            have HN_76 := hid (HN_75.out.alloc (.cells #[.int .i64 zop, .int .i64 zrd, .int .i64 zrs1, .int .i64 zrs2, .int .i64 zimm] 26))
            have HM_76 := hid (CellsAt.new w75 [.int .i64 zop, .int .i64 zrd, .int .i64 zrs1, .int .i64 zrs2, .int .i64 zimm] 26)
            have HB_76 := hid (HB_75.out.alloc HB_75.out.size (.cells #[.int .i64 zop, .int .i64 zrd, .int .i64 zrs1, .int .i64 zrs2, .int .i64 zimm] 26))
            have vc0 := HN_76.out.2.2 0 _ rfl
            have vc1 := HN_76.out.2.2 1 _ rfl
            have vc2 := HN_76.out.2.2 2 _ rfl
            have vc3 := HN_76.out.2.2 3 _ rfl
            have vc4 := HN_76.out.2.2 4 _ rfl
            go_wp2_with fail
            go_ret
            exact ⟨rfl, HB_76.out⟩
          · go_wp2_with fail
            go_ret
            exact ⟨rfl, HB_73.out⟩
  · have hr' : Pn.right i = false := by simpa using hr
    rw [Pn.enc_not hr'] at HEn
    rw [Pn.shw_not hr'] at HSw
    have hs : Pn.shortP i = (0, 1) := by unfold Pn.shortP; rw [if_neg hr]
    rw [hs] at HSt
    clear hs hr hr'
    obtain ⟨iop, ird, irs1, irs2, iimm⟩ := i
    unfold Pn.Ins.val icells at *
    simp only at *
    go_enter Tryz.func6, Tryz.ntmps6
    go_wp2_with fail
    generalize w.alloc _ = W0 at *
    refine (awake_is _ (HE.out.below HB0.out HE.out.1)).mono ?_
    rintro e w77 ⟨rfl, hB77⟩
    have HI_77 := hid (HIC.out.next hB77)
    have HB_77 := hid (HB0.out.trans (hB77.mono HB0.out.size))
    clear hB77
    have i0 := HI_77.out.2.2 0 _ rfl
    have i1 := HI_77.out.2.2 1 _ rfl
    have i2 := HI_77.out.2.2 2 _ rfl
    have i3 := HI_77.out.2.2 3 _ rfl
    have i4 := HI_77.out.2.2 4 _ rfl
    go_wp2_with fail
    refine (HEn.out _).mono ?_
    rintro e w78 ⟨rfl, hB78⟩
    have HI_78 := hid (HI_77.out.next hB78)
    have HB_78 := hid (HB_77.out.trans (hB78.mono HB_77.out.size))
    clear hB78
    clear i0 i1 i2 i3 i4 HI_77
    have i0 := HI_78.out.2.2 0 _ rfl
    have i1 := HI_78.out.2.2 1 _ rfl
    have i2 := HI_78.out.2.2 2 _ rfl
    have i3 := HI_78.out.2.2 3 _ rfl
    have i4 := HI_78.out.2.2 4 _ rfl
    go_wp2_with fail
    refine (HSw.out _ (HE.out.below HB_78.out HE.out.1)).mono ?_
    rintro e w79 ⟨rfl, hB79⟩
    have HI_79 := hid (HI_78.out.next hB79)
    have HB_79 := hid (HB_78.out.trans (hB79.mono HB_78.out.size))
    clear hB79
    clear i0 i1 i2 i3 i4 HI_78
    have i0 := HI_79.out.2.2 0 _ rfl
    have i1 := HI_79.out.2.2 1 _ rfl
    have i2 := HI_79.out.2.2 2 _ rfl
    have i3 := HI_79.out.2.2 3 _ rfl
    have i4 := HI_79.out.2.2 4 _ rfl
    go_wp2_with fail
    refine (HSt.out _).mono ?_
    rintro e w80 ⟨rfl, hB80⟩
    have HI_80 := hid (HI_79.out.next hB80)
    have HB_80 := hid (HB_79.out.trans (hB80.mono HB_79.out.size))
    clear hB80
    clear i0 i1 i2 i3 i4 HI_79
    go_wp2_with fail
    refine (HDw.out _).mono ?_
    rintro e w81 ⟨rfl, hB81⟩
    have HB_81 := hid (HB_80.out.trans (hB81.mono HB_80.out.size))
    clear hB81
    have HN_82 := hid (CellsAt.new w81 [.int .i64 xop, .int .i64 xrd, .int .i64 xrs1, .int .i64 xrs2, .int .i64 ximm] 26)
    have HB_82 := hid (HB_81.out.alloc HB_81.out.size (.cells #[.int .i64 xop, .int .i64 xrd, .int .i64 xrs1, .int .i64 xrs2, .int .i64 ximm] 26))
    by_cases hdp : dp = 0
    · subst hdp
      have HEx := hid (fun w' => pencode_any (Pn.Ins.mk xop xrd xrs1 xrs2 ximm) w')
      rw [HDE.out rfl] at HEx
      unfold Pn.Ins.val at HEx
      simp only at HEx
      go_wp2_with fail
      refine (HEx.out _).mono ?_
      rintro e w83 ⟨rfl, hB83⟩
      have HB_83 := hid (HB_82.out.trans (hB83.mono HB_82.out.size))
      clear hB83
      go_wp2_with fail
      refine (HXh.out _).mono ?_
      rintro e w84 ⟨rfl, hB84⟩
      have HB_84 := hid (HB_83.out.trans (hB84.mono HB_83.out.size))
      clear hB84
      have HN_85 := hid (CellsAt.new w84 [.int .i64 yop, .int .i64 yrd, .int .i64 yrs1, .int .i64 yrs2, .int .i64 yimm] 26)
      have HB_85 := hid (HB_84.out.alloc HB_84.out.size (.cells #[.int .i64 yop, .int .i64 yrd, .int .i64 yrs1, .int .i64 yrs2, .int .i64 yimm] 26))
      by_cases hyp : yp = 0
      · subst hyp
        obtain ⟨v, hv⟩ := HYS.out rfl
        have HSy := hid (fun w' => pshort_any reads_all (Pn.Ins.mk yop yrd yrs1 yrs2 yimm) w')
        rw [hv] at HSy
        have HXy := hid (fun w' => pexpand_any v w')
        rw [(Pn.exp_short hv).1] at HXy
        unfold Pn.Ins.val at HSy HXy
        simp only at HSy HXy
        clear hv
        go_wp2_with fail
        generalize w84.alloc _ = W85 at *
        refine (HSy.out _).mono ?_
        rintro e w86 ⟨rfl, hB86⟩
        have HN_86 := hid (HN_85.out.next hB86)
        have HB_86 := hid (HB_85.out.trans (hB86.mono HB_85.out.size))
        clear hB86
        go_wp2_with fail
        refine (HXy.out _).mono ?_
        rintro e w87 ⟨rfl, hB87⟩
        have HN_87 := hid (HN_86.out.next hB87)
        have HB_87 := hid (HB_86.out.trans (hB87.mono HB_86.out.size))
        clear hB87
        have HN_88 := hid (HN_87.out.alloc (.cells #[.int .i64 yop, .int .i64 yrd, .int .i64 yrs1, .int .i64 yrs2, .int .i64 yimm] 26))
        have HM_88 := hid (CellsAt.new w87 [.int .i64 yop, .int .i64 yrd, .int .i64 yrs1, .int .i64 yrs2, .int .i64 yimm] 26)
        have HB_88 := hid (HB_87.out.alloc HB_87.out.size (.cells #[.int .i64 yop, .int .i64 yrd, .int .i64 yrs1, .int .i64 yrs2, .int .i64 yimm] 26))
        have yc0 := HN_88.out.2.2 0 _ rfl
        have yc1 := HN_88.out.2.2 1 _ rfl
        have yc2 := HN_88.out.2.2 2 _ rfl
        have yc3 := HN_88.out.2.2 3 _ rfl
        have yc4 := HN_88.out.2.2 4 _ rfl
        go_wp2_with fail
        clear yc0 yc1 yc2 yc3 yc4
        refine (HRt.out _ (HE.out.below HB_88.out HE.out.1)).mono ?_
        rintro e w89 ⟨rfl, hB89⟩
        have HB_89 := hid (HB_88.out.trans (hB89.mono HB_88.out.size))
        clear hB89
        have HN_90 := hid (CellsAt.new w89 [.int .i64 zop, .int .i64 zrd, .int .i64 zrs1, .int .i64 zrs2, .int .i64 zimm] 26)
        have HB_90 := hid (HB_89.out.alloc HB_89.out.size (.cells #[.int .i64 zop, .int .i64 zrd, .int .i64 zrs1, .int .i64 zrs2, .int .i64 zimm] 26))
        by_cases hzp : zp = 0
        · subst hzp
          have hzr := HZR.out rfl
          have HSz := hid (fun w' (h : Env w') => pshow_any (Pn.Ins.mk zop zrd zrs1 zrs2 zimm) w' h)
          obtain ⟨q1, q2⟩ := Pn.prd_show hzr
          generalize Pn.shw (Pn.Ins.mk zop zrd zrs1 zrs2 zimm) = ZS at *
          obtain ⟨zs, ze⟩ := ZS
          simp only at q1 q2 HSz
          subst q2
          have HRz := hid (fun w' (h : Env w') => pread_any ⟨zs.toArray⟩ w' h)
          rw [q1] at HRz
          unfold Pn.Ins.val at HSz HRz
          simp only at HSz HRz
          clear q1 hzr
          go_wp2_with fail
          generalize w89.alloc _ = W90 at *
          refine (HSz.out _ (HE.out.below HB_90.out HE.out.1)).mono ?_
          rintro e w91 ⟨rfl, hB91⟩
          have HN_91 := hid (HN_90.out.next hB91)
          have HB_91 := hid (HB_90.out.trans (hB91.mono HB_90.out.size))
          clear hB91
          go_wp2_with fail
          refine (HRz.out _ (HE.out.below HB_91.out HE.out.1)).mono ?_
          rintro e w92 ⟨rfl, hB92⟩
          have HN_92 := hid (HN_91.out.next hB92)
          have HB_92 := hid (HB_91.out.trans (hB92.mono HB_91.out.size))
          clear hB92
          have HN_93 := hid (HN_92.out.alloc (.cells #[.int .i64 zop, .int .i64 zrd, .int .i64 zrs1, .int .i64 zrs2, .int .i64 zimm] 26))
          have HM_93 := hid (CellsAt.new w92 [.int .i64 zop, .int .i64 zrd, .int .i64 zrs1, .int .i64 zrs2, .int .i64 zimm] 26)
          have HB_93 := hid (HB_92.out.alloc HB_92.out.size (.cells #[.int .i64 zop, .int .i64 zrd, .int .i64 zrs1, .int .i64 zrs2, .int .i64 zimm] 26))
          have vc0 := HN_93.out.2.2 0 _ rfl
          have vc1 := HN_93.out.2.2 1 _ rfl
          have vc2 := HN_93.out.2.2 2 _ rfl
          have vc3 := HN_93.out.2.2 3 _ rfl
          have vc4 := HN_93.out.2.2 4 _ rfl
          go_wp2_with fail
          go_ret
          exact ⟨rfl, HB_93.out⟩
        · go_wp2_with fail
          go_ret
          exact ⟨rfl, HB_90.out⟩
      · go_wp2_with fail
        refine (HRt.out _ (HE.out.below HB_85.out HE.out.1)).mono ?_
        rintro e w94 ⟨rfl, hB94⟩
        have HB_94 := hid (HB_85.out.trans (hB94.mono HB_85.out.size))
        clear hB94
        have HN_95 := hid (CellsAt.new w94 [.int .i64 zop, .int .i64 zrd, .int .i64 zrs1, .int .i64 zrs2, .int .i64 zimm] 26)
        have HB_95 := hid (HB_94.out.alloc HB_94.out.size (.cells #[.int .i64 zop, .int .i64 zrd, .int .i64 zrs1, .int .i64 zrs2, .int .i64 zimm] 26))
        by_cases hzp : zp = 0
        · subst hzp
          have hzr := HZR.out rfl
          have HSz := hid (fun w' (h : Env w') => pshow_any (Pn.Ins.mk zop zrd zrs1 zrs2 zimm) w' h)
          obtain ⟨q1, q2⟩ := Pn.prd_show hzr
          generalize Pn.shw (Pn.Ins.mk zop zrd zrs1 zrs2 zimm) = ZS at *
          obtain ⟨zs, ze⟩ := ZS
          simp only at q1 q2 HSz
          subst q2
          have HRz := hid (fun w' (h : Env w') => pread_any ⟨zs.toArray⟩ w' h)
          rw [q1] at HRz
          unfold Pn.Ins.val at HSz HRz
          simp only at HSz HRz
          clear q1 hzr
          go_wp2_with fail
          generalize w94.alloc _ = W95 at *
          refine (HSz.out _ (HE.out.below HB_95.out HE.out.1)).mono ?_
          rintro e w96 ⟨rfl, hB96⟩
          have HN_96 := hid (HN_95.out.next hB96)
          have HB_96 := hid (HB_95.out.trans (hB96.mono HB_95.out.size))
          clear hB96
          go_wp2_with fail
          refine (HRz.out _ (HE.out.below HB_96.out HE.out.1)).mono ?_
          rintro e w97 ⟨rfl, hB97⟩
          have HN_97 := hid (HN_96.out.next hB97)
          have HB_97 := hid (HB_96.out.trans (hB97.mono HB_96.out.size))
          clear hB97
          have HN_98 := hid (HN_97.out.alloc (.cells #[.int .i64 zop, .int .i64 zrd, .int .i64 zrs1, .int .i64 zrs2, .int .i64 zimm] 26))
          have HM_98 := hid (CellsAt.new w97 [.int .i64 zop, .int .i64 zrd, .int .i64 zrs1, .int .i64 zrs2, .int .i64 zimm] 26)
          have HB_98 := hid (HB_97.out.alloc HB_97.out.size (.cells #[.int .i64 zop, .int .i64 zrd, .int .i64 zrs1, .int .i64 zrs2, .int .i64 zimm] 26))
          have vc0 := HN_98.out.2.2 0 _ rfl
          have vc1 := HN_98.out.2.2 1 _ rfl
          have vc2 := HN_98.out.2.2 2 _ rfl
          have vc3 := HN_98.out.2.2 3 _ rfl
          have vc4 := HN_98.out.2.2 4 _ rfl
          go_wp2_with fail
          go_ret
          exact ⟨rfl, HB_98.out⟩
        · go_wp2_with fail
          go_ret
          exact ⟨rfl, HB_95.out⟩
    · go_wp2_with fail
      refine (HXh.out _).mono ?_
      rintro e w99 ⟨rfl, hB99⟩
      have HB_99 := hid (HB_82.out.trans (hB99.mono HB_82.out.size))
      clear hB99
      have HN_100 := hid (CellsAt.new w99 [.int .i64 yop, .int .i64 yrd, .int .i64 yrs1, .int .i64 yrs2, .int .i64 yimm] 26)
      have HB_100 := hid (HB_99.out.alloc HB_99.out.size (.cells #[.int .i64 yop, .int .i64 yrd, .int .i64 yrs1, .int .i64 yrs2, .int .i64 yimm] 26))
      by_cases hyp : yp = 0
      · subst hyp
        obtain ⟨v, hv⟩ := HYS.out rfl
        have HSy := hid (fun w' => pshort_any reads_all (Pn.Ins.mk yop yrd yrs1 yrs2 yimm) w')
        rw [hv] at HSy
        have HXy := hid (fun w' => pexpand_any v w')
        rw [(Pn.exp_short hv).1] at HXy
        unfold Pn.Ins.val at HSy HXy
        simp only at HSy HXy
        clear hv
        go_wp2_with fail
        generalize w99.alloc _ = W100 at *
        refine (HSy.out _).mono ?_
        rintro e w101 ⟨rfl, hB101⟩
        have HN_101 := hid (HN_100.out.next hB101)
        have HB_101 := hid (HB_100.out.trans (hB101.mono HB_100.out.size))
        clear hB101
        go_wp2_with fail
        refine (HXy.out _).mono ?_
        rintro e w102 ⟨rfl, hB102⟩
        have HN_102 := hid (HN_101.out.next hB102)
        have HB_102 := hid (HB_101.out.trans (hB102.mono HB_101.out.size))
        clear hB102
        have HN_103 := hid (HN_102.out.alloc (.cells #[.int .i64 yop, .int .i64 yrd, .int .i64 yrs1, .int .i64 yrs2, .int .i64 yimm] 26))
        have HM_103 := hid (CellsAt.new w102 [.int .i64 yop, .int .i64 yrd, .int .i64 yrs1, .int .i64 yrs2, .int .i64 yimm] 26)
        have HB_103 := hid (HB_102.out.alloc HB_102.out.size (.cells #[.int .i64 yop, .int .i64 yrd, .int .i64 yrs1, .int .i64 yrs2, .int .i64 yimm] 26))
        have yc0 := HN_103.out.2.2 0 _ rfl
        have yc1 := HN_103.out.2.2 1 _ rfl
        have yc2 := HN_103.out.2.2 2 _ rfl
        have yc3 := HN_103.out.2.2 3 _ rfl
        have yc4 := HN_103.out.2.2 4 _ rfl
        go_wp2_with fail
        clear yc0 yc1 yc2 yc3 yc4
        refine (HRt.out _ (HE.out.below HB_103.out HE.out.1)).mono ?_
        rintro e w104 ⟨rfl, hB104⟩
        have HB_104 := hid (HB_103.out.trans (hB104.mono HB_103.out.size))
        clear hB104
        have HN_105 := hid (CellsAt.new w104 [.int .i64 zop, .int .i64 zrd, .int .i64 zrs1, .int .i64 zrs2, .int .i64 zimm] 26)
        have HB_105 := hid (HB_104.out.alloc HB_104.out.size (.cells #[.int .i64 zop, .int .i64 zrd, .int .i64 zrs1, .int .i64 zrs2, .int .i64 zimm] 26))
        by_cases hzp : zp = 0
        · subst hzp
          have hzr := HZR.out rfl
          have HSz := hid (fun w' (h : Env w') => pshow_any (Pn.Ins.mk zop zrd zrs1 zrs2 zimm) w' h)
          obtain ⟨q1, q2⟩ := Pn.prd_show hzr
          generalize Pn.shw (Pn.Ins.mk zop zrd zrs1 zrs2 zimm) = ZS at *
          obtain ⟨zs, ze⟩ := ZS
          simp only at q1 q2 HSz
          subst q2
          have HRz := hid (fun w' (h : Env w') => pread_any ⟨zs.toArray⟩ w' h)
          rw [q1] at HRz
          unfold Pn.Ins.val at HSz HRz
          simp only at HSz HRz
          clear q1 hzr
          go_wp2_with fail
          generalize w104.alloc _ = W105 at *
          refine (HSz.out _ (HE.out.below HB_105.out HE.out.1)).mono ?_
          rintro e w106 ⟨rfl, hB106⟩
          have HN_106 := hid (HN_105.out.next hB106)
          have HB_106 := hid (HB_105.out.trans (hB106.mono HB_105.out.size))
          clear hB106
          go_wp2_with fail
          refine (HRz.out _ (HE.out.below HB_106.out HE.out.1)).mono ?_
          rintro e w107 ⟨rfl, hB107⟩
          have HN_107 := hid (HN_106.out.next hB107)
          have HB_107 := hid (HB_106.out.trans (hB107.mono HB_106.out.size))
          clear hB107
          have HN_108 := hid (HN_107.out.alloc (.cells #[.int .i64 zop, .int .i64 zrd, .int .i64 zrs1, .int .i64 zrs2, .int .i64 zimm] 26))
          have HM_108 := hid (CellsAt.new w107 [.int .i64 zop, .int .i64 zrd, .int .i64 zrs1, .int .i64 zrs2, .int .i64 zimm] 26)
          have HB_108 := hid (HB_107.out.alloc HB_107.out.size (.cells #[.int .i64 zop, .int .i64 zrd, .int .i64 zrs1, .int .i64 zrs2, .int .i64 zimm] 26))
          have vc0 := HN_108.out.2.2 0 _ rfl
          have vc1 := HN_108.out.2.2 1 _ rfl
          have vc2 := HN_108.out.2.2 2 _ rfl
          have vc3 := HN_108.out.2.2 3 _ rfl
          have vc4 := HN_108.out.2.2 4 _ rfl
          go_wp2_with fail
          go_ret
          exact ⟨rfl, HB_108.out⟩
        · go_wp2_with fail
          go_ret
          exact ⟨rfl, HB_105.out⟩
      · go_wp2_with fail
        refine (HRt.out _ (HE.out.below HB_100.out HE.out.1)).mono ?_
        rintro e w109 ⟨rfl, hB109⟩
        have HB_109 := hid (HB_100.out.trans (hB109.mono HB_100.out.size))
        clear hB109
        have HN_110 := hid (CellsAt.new w109 [.int .i64 zop, .int .i64 zrd, .int .i64 zrs1, .int .i64 zrs2, .int .i64 zimm] 26)
        have HB_110 := hid (HB_109.out.alloc HB_109.out.size (.cells #[.int .i64 zop, .int .i64 zrd, .int .i64 zrs1, .int .i64 zrs2, .int .i64 zimm] 26))
        by_cases hzp : zp = 0
        · subst hzp
          have hzr := HZR.out rfl
          have HSz := hid (fun w' (h : Env w') => pshow_any (Pn.Ins.mk zop zrd zrs1 zrs2 zimm) w' h)
          obtain ⟨q1, q2⟩ := Pn.prd_show hzr
          generalize Pn.shw (Pn.Ins.mk zop zrd zrs1 zrs2 zimm) = ZS at *
          obtain ⟨zs, ze⟩ := ZS
          simp only at q1 q2 HSz
          subst q2
          have HRz := hid (fun w' (h : Env w') => pread_any ⟨zs.toArray⟩ w' h)
          rw [q1] at HRz
          unfold Pn.Ins.val at HSz HRz
          simp only at HSz HRz
          clear q1 hzr
          go_wp2_with fail
          generalize w109.alloc _ = W110 at *
          refine (HSz.out _ (HE.out.below HB_110.out HE.out.1)).mono ?_
          rintro e w111 ⟨rfl, hB111⟩
          have HN_111 := hid (HN_110.out.next hB111)
          have HB_111 := hid (HB_110.out.trans (hB111.mono HB_110.out.size))
          clear hB111
          go_wp2_with fail
          refine (HRz.out _ (HE.out.below HB_111.out HE.out.1)).mono ?_
          rintro e w112 ⟨rfl, hB112⟩
          have HN_112 := hid (HN_111.out.next hB112)
          have HB_112 := hid (HB_111.out.trans (hB112.mono HB_111.out.size))
          clear hB112
          have HN_113 := hid (HN_112.out.alloc (.cells #[.int .i64 zop, .int .i64 zrd, .int .i64 zrs1, .int .i64 zrs2, .int .i64 zimm] 26))
          have HM_113 := hid (CellsAt.new w112 [.int .i64 zop, .int .i64 zrd, .int .i64 zrs1, .int .i64 zrs2, .int .i64 zimm] 26)
          have HB_113 := hid (HB_112.out.alloc HB_112.out.size (.cells #[.int .i64 zop, .int .i64 zrd, .int .i64 zrs1, .int .i64 zrs2, .int .i64 zimm] 26))
          have vc0 := HN_113.out.2.2 0 _ rfl
          have vc1 := HN_113.out.2.2 1 _ rfl
          have vc2 := HN_113.out.2.2 2 _ rfl
          have vc3 := HN_113.out.2.2 3 _ rfl
          have vc4 := HN_113.out.2.2 4 _ rfl
          go_wp2_with fail
          go_ret
          exact ⟨rfl, HB_113.out⟩
        · go_wp2_with fail
          go_ret
          exact ⟨rfl, HB_110.out⟩
end Go.Proofs.YtbmcofdodfcnnaaGreatDoor
