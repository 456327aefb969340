import Derived.Test.YtbmcofdodfcnnaaGreatDoorUG
import Derived.Test.YtbmcofdodfcnnaaGreatDoorGP
namespace Pn
open Go Go.RowKit
/-- what Divided asks of the numbers that machines gave -/
structure DivF (a b q r x y m n u v z s t : Int) : Prop where
  f1 : wrap64 (m + r) = a
  f2 : wrap64 (n + y) = a
  f3 : b ≠ 0 → IntKind.u64.wrap y < IntKind.u64.wrap b
  f4 : b ≠ 0 → r ≠ 0 → (r < 0 ↔ a < 0)
  f5 : b = 0 → q = -1 ∧ x = -1 ∧ r = a ∧ y = a
  f6 : wrap32 (wrap32 (wrap32 u * wrap32 b) + wrap32 v) = wrap32 a
  f7 : wrap64 (wrap32 u) = u
  f8 : wrap64 (wrap32 v) = v
  f9 : IntKind.u64.wrap z = wantP a b
  f10 : a < 0 → t = wrap64 (z - b)
  f11 : ¬ a < 0 → t = z
  f12 : b < 0 → s = wrap64 (t - a)
  f13 : ¬ b < 0 → s = t
theorem wr32_id (x : Int) (h0 : -2147483648 ≤ x) (h1 : x < 2147483648) : IntKind.i32.wrap x = x := by rw [IntKind.wrap_i32]; omega
theorem wr64_wr64 (x : Int) : IntKind.i64.wrap (IntKind.i64.wrap x) = IntKind.i64.wrap x := by rw [IntKind.wrap_i64, IntKind.wrap_i64]; omega
theorem divF (a b : Int) (a0 : -9223372036854775808 ≤ a) (a1 : a < 9223372036854775808) (b0 : -9223372036854775808 ≤ b) (b1 : b < 9223372036854775808) :
    DivF a b (comp 15 a b) (comp 17 a b) (comp 16 a b) (comp 18 a b) (comp 11 (comp 15 a b) b) (comp 11 (comp 16 a b) b) (comp 25 a b) (comp 27 a b) (comp 14 a b) (comp 12 a b) (comp 13 a b) where
  f1 := (Go.Proofs.YtbmcofdodfcnnaaGreatDoor.wrap64_eq _).trans (quo_back a b a0 a1)
  f2 := (Go.Proofs.YtbmcofdodfcnnaaGreatDoor.wrap64_eq _).trans (quoU_back a b a0 a1)
  f3 := fun h => remU_lt a b b0 b1 h
  f4 := fun h hr => rem_sign a b h hr
  f5 := fun h => by subst h; exact ⟨rfl, rfl, rfl, rfl⟩
  f6 := by simp only [Go.Proofs.YtbmcofdodfcnnaaGreatDoor.wrap32_eq]; exact quo32 a b
  f7 := by
    show wrap64 (wrap32 (low (quo (low a) (low b)))) = low (quo (low a) (low b))
    rw [Go.Proofs.YtbmcofdodfcnnaaGreatDoor.wrap64_eq, Go.Proofs.YtbmcofdodfcnnaaGreatDoor.wrap32_eq]
    have h := low_bd (quo (low a) (low b))
    rw [wr32_id _ h.1 h.2, IntKind.wrap_i64]; omega
  f8 := by
    show wrap64 (wrap32 (rem' (low a) (low b))) = rem' (low a) (low b)
    rw [Go.Proofs.YtbmcofdodfcnnaaGreatDoor.wrap64_eq, Go.Proofs.YtbmcofdodfcnnaaGreatDoor.wrap32_eq]
    have h := rem32_bd a b
    rw [wr32_id _ h.1 h.2, IntKind.wrap_i64]; omega
  f9 := by rw [wu64]; exact want_is a b
  f10 := fun h => by
    show IntKind.i64.wrap (high a b - abv a b) = wrap64 (high a b - b)
    unfold abv; rw [if_pos h, Go.Proofs.YtbmcofdodfcnnaaGreatDoor.wrap64_eq]
  f11 := fun h => by
    show IntKind.i64.wrap (high a b - abv a b) = high a b
    unfold abv; rw [if_neg h, Int.sub_zero]; unfold high; exact wr64_wr64 _
  f12 := fun h => by
    show IntKind.i64.wrap (IntKind.i64.wrap (high a b - abv a b) - abv b a) = wrap64 (IntKind.i64.wrap (high a b - abv a b) - a)
    rw [Go.Proofs.YtbmcofdodfcnnaaGreatDoor.wrap64_eq]; conv => lhs; arg 2; arg 2; unfold abv; rw [if_pos h]
  f13 := fun h => by
    show IntKind.i64.wrap (IntKind.i64.wrap (high a b - abv a b) - abv b a) = IntKind.i64.wrap (high a b - abv a b)
    conv => lhs; arg 2; arg 2; unfold abv; rw [if_neg h]
    rw [Int.sub_zero]; exact wr64_wr64 _
theorem and32 (x : Int) (x0 : 0 ≤ x) (x1 : x < 18446744073709551616) : Go.bits .and .u64 x 4294967295 = x % 4294967296 := by
  have := bits_mask .u64 64 (by decide) (fun n h0 h1 => by rw [wu64]; have e : (2:Int) ^ 64 = 18446744073709551616 := by decide
                                                           rw [e] at h1; omega) 32 (by decide) x x0 (by have e : (2:Int) ^ 64 = 18446744073709551616 := by decide
                                                                                                        rw [e]; exact x1)
  have e1 : (2:Int) ^ 32 - 1 = 4294967295 := by decide
  have e2 : (2:Int) ^ 32 = 4294967296 := by decide
  rw [e1, e2] at this
  exact this
theorem parts64 (a b : Int) : ∃ al ah bl bh : Int, 0 ≤ al ∧ al < 4294967296 ∧ 0 ≤ ah ∧ ah < 4294967296 ∧ 0 ≤ bl ∧ bl < 4294967296 ∧ 0 ≤ bh ∧ bh < 4294967296 ∧
    Go.bits .and .u64 (IntKind.u64.wrap a) 4294967295 = al ∧ IntKind.u64.wrap a / 4294967296 = ah ∧ Go.bits .and .u64 (IntKind.u64.wrap b) 4294967295 = bl ∧ IntKind.u64.wrap b / 4294967296 = bh ∧
    wantP a b = ah * bh + (ah * bl + al * bl / 4294967296) / 4294967296 + (al * bh + (ah * bl + al * bl / 4294967296) % 4294967296) / 4294967296 := by
  have ha : uA a = IntKind.u64.wrap a := (wu64 a).symm
  have hb : uA b = IntKind.u64.wrap b := (wu64 b).symm
  have a0 : 0 ≤ IntKind.u64.wrap a ∧ IntKind.u64.wrap a < 18446744073709551616 := by rw [wu64]; omega
  have b0 : 0 ≤ IntKind.u64.wrap b ∧ IntKind.u64.wrap b < 18446744073709551616 := by rw [wu64]; omega
  refine ⟨IntKind.u64.wrap a % 4294967296, IntKind.u64.wrap a / 4294967296, IntKind.u64.wrap b % 4294967296, IntKind.u64.wrap b / 4294967296, by omega, by omega, by omega, by omega, by omega, by omega, by omega, by omega, and32 _ a0.1 a0.2, rfl, and32 _ b0.1 b0.2, rfl, ?_⟩
  unfold wantP
  rw [ha, hb]
theorem comp_bd11 (x y : Int) : -9223372036854775808 ≤ comp 15 x y ∧ comp 15 x y < 9223372036854775808 := by
  show -9223372036854775808 ≤ quo x y ∧ quo x y < 9223372036854775808
  unfold quo; split
  · decide
  · exact wr64_bd _
theorem comp_bd16 (x y : Int) : -9223372036854775808 ≤ comp 16 x y ∧ comp 16 x y < 9223372036854775808 := by
  show -9223372036854775808 ≤ quoU x y ∧ quoU x y < 9223372036854775808
  unfold quoU; split
  · decide
  · exact wr64_bd _
end Pn
namespace Go.Proofs.YtbmcofdodfcnnaaGreatDoor
open Go.RowKit
set_option maxRecDepth 20000 in
set_option maxHeartbeats 2000000 in
theorem divided_is (a b : Int) (w : World) (ha : inB a) (hb : inB b) (haw : Calls Tryz.prog 13 #[] w fun e w' => e = .returned (.bool true) ∧ Below w.heap.size w w') :
    Calls Tryz.prog 10 #[.int .i64 a, .int .i64 b] w fun e w' => e = .returned (.bool true) ∧ Below w.heap.size w w' := by
  have HF := hid (Pn.divF a b ha.1 ha.2 hb.1 hb.2)
  have K1 := hid (fun w1 => km_is 15 _ a b w1 wok_15 ha hb)
  have K2 := hid (fun w1 => km_is 17 _ a b w1 wok_17 ha hb)
  have K3 := hid (fun w1 => km_is 16 _ a b w1 wok_16 ha hb)
  have K4 := hid (fun w1 => km_is 18 _ a b w1 wok_18 ha hb)
  have K5 := hid (fun w1 => km_is 11 _ (Pn.comp 15 a b) b w1 wok_11 (Pn.comp_bd11 a b) hb)
  have K6 := hid (fun w1 => km_is 11 _ (Pn.comp 16 a b) b w1 wok_11 (Pn.comp_bd16 a b) hb)
  have K7 := hid (fun w1 => km_is 25 _ a b w1 wok_25 ha hb)
  have K8 := hid (fun w1 => km_is 27 _ a b w1 wok_27 ha hb)
  have K9 := hid (fun w1 => km_is 14 _ a b w1 wok_14 ha hb)
  have KA := hid (fun w1 => km_is 12 _ a b w1 wok_12 ha hb)
  have KB := hid (fun w1 => km_is 13 _ a b w1 wok_13 ha hb)
  generalize Pn.comp 11 (Pn.comp 15 a b) b = m at *
  generalize Pn.comp 11 (Pn.comp 16 a b) b = n at *
  generalize Pn.comp 15 a b = q at *
  generalize Pn.comp 17 a b = r at *
  generalize Pn.comp 16 a b = x at *
  generalize Pn.comp 18 a b = y at *
  generalize Pn.comp 25 a b = u at *
  generalize Pn.comp 27 a b = v at *
  generalize Pn.comp 14 a b = z at *
  generalize Pn.comp 12 a b = s at *
  generalize Pn.comp 13 a b = t at *
  go_enter Tryz.func10, Tryz.ntmps10
  go_wp2_with fail
  refine haw.mono ?_
  rintro e w0 ⟨rfl, hB0⟩
  go_wp2_with fail
  refine (K1.out _).mono ?_
  rintro e w1 ⟨rfl, hB1⟩
  have H1 := hid (hB0.trans (hB1.mono hB0.size))
  clear hB1 hB0
  go_wp2_with fail
  refine (K2.out _).mono ?_
  rintro e w2 ⟨rfl, hB2⟩
  have H2 := hid (H1.out.trans (hB2.mono H1.out.size))
  clear hB2 H1
  go_wp2_with fail
  refine (K3.out _).mono ?_
  rintro e w3 ⟨rfl, hB3⟩
  have H3 := hid (H2.out.trans (hB3.mono H2.out.size))
  clear hB3 H2
  go_wp2_with fail
  refine (K4.out _).mono ?_
  rintro e w4 ⟨rfl, hB4⟩
  have H4 := hid (H3.out.trans (hB4.mono H3.out.size))
  clear hB4 H3
  go_wp2_with fail
  refine (K5.out _).mono ?_
  rintro e w5 ⟨rfl, hB5⟩
  have H5 := hid (H4.out.trans (hB5.mono H4.out.size))
  clear hB5 H4
  go_wp2_with fail
  refine (K6.out _).mono ?_
  rintro e w6 ⟨rfl, hB6⟩
  have H6 := hid (H5.out.trans (hB6.mono H5.out.size))
  clear hB6 H5
  have f1 := HF.out.f1
  have f2 := HF.out.f2
  have f6 := HF.out.f6
  have f7 := HF.out.f7
  have f8 := HF.out.f8
  obtain ⟨al, ah, bl, bh, al0, al1, ah0, ah1, bl0, bl1, bh0, bh1, g1, g2, g3, g4, g5⟩ := Pn.parts64 a b
  have f9 := HF.out.f9.trans g5
  have p1 := Pn.prod32 ah bl ah0 ah1 bl0 bl1
  have p2 := Pn.prod32 al bl al0 al1 bl0 bl1
  have p3 := Pn.prod32 al bh al0 al1 bh0 bh1
  have p4 := Pn.prod32 ah bh ah0 ah1 bh0 bh1
  have g6 := Pn.and32 (ah * bl + al * bl / 4294967296) (by omega) (by omega)
  have HG := hid (And.intro g1 (And.intro g2 (And.intro g3 (And.intro g4 (And.intro g6 f9)))))
  clear g1 g2 g3 g4 g6 f9 g5
  have HT : Hid (∀ Y : Int, True) := hid (fun _ => trivial)
  clear HT
  have HX : Hid ((b != 0) = false ∧ q = -1 ∧ x = -1 ∧ r = a ∧ y = a ∨ (b != 0) = true ∧ IntKind.u64.wrap y < IntKind.u64.wrap b ∧ ((r != 0) = false ∨ (r != 0) = true ∧ r < 0 ∧ a < 0 ∨ (r != 0) = true ∧ (!decide (r < 0) == decide (a < 0)) = false ∧ 0 ≤ a)) := hid (by
    by_cases hb0 : b = 0
    · exact .inl ⟨by simpa using hb0, HF.out.f5 hb0⟩
    · refine .inr ⟨by simpa using hb0, HF.out.f3 hb0, ?_⟩
      by_cases hr0 : r = 0
      · exact .inl (by simpa using hr0)
      · have := HF.out.f4 hb0 hr0
        by_cases ha0 : a < 0
        · exact .inr (.inl ⟨by simpa using hr0, this.2 ha0, ha0⟩)
        · have hr9 : ¬ r < 0 := fun h => ha0 (this.1 h)
          exact .inr (.inr ⟨by simpa using hr0, by rw [decide_eq_false hr9, decide_eq_false ha0]; rfl, by omega⟩))
  rcases HX.out with ⟨hbn, rfl, rfl, hra, hya⟩ | ⟨hbn, f3, hrn | ⟨hrn, hr1, hr2⟩ | ⟨hrn, hr1, hr2⟩⟩
  · subst hra
    subst hya
    clear HX
    go_wp2_with fail
    refine (K7.out _).mono ?_
    rintro e w7 ⟨rfl, hB7⟩
    have H7 := hid (H6.out.trans (hB7.mono H6.out.size))
    clear hB7
    go_wp2_with fail
    refine (K8.out _).mono ?_
    rintro e w8 ⟨rfl, hB8⟩
    have H8 := hid (H7.out.trans (hB8.mono H7.out.size))
    clear hB8 H7
    obtain ⟨g1, g2, g3, g4, g6, f9⟩ := HG.out
    go_wp2_with fail
    clear g1 g2 g3 g4 g6 f1 f2 f6 f7 f8
    refine (K9.out _).mono ?_
    rintro e w9 ⟨rfl, hB9⟩
    have H9 := hid (H8.out.trans (hB9.mono H8.out.size))
    clear hB9 H8
    go_wp2_with fail
    refine (KA.out _).mono ?_
    rintro e wA ⟨rfl, hBA⟩
    have HA := hid (H9.out.trans (hBA.mono H9.out.size))
    clear hBA H9
    go_wp2_with fail
    refine (KB.out _).mono ?_
    rintro e wB ⟨rfl, hBB⟩
    have HBB := hid (HA.out.trans (hBB.mono HA.out.size))
    clear hBB HA
    by_cases ha0 : y < 0
    · have f10 := HF.out.f10 ha0
      by_cases hb0 : b < 0
      · have f12 := HF.out.f12 hb0
        subst f12
        subst f10
        go_wp2_with fail
        all_goals
          go_ret
          exact ⟨rfl, HBB.out⟩
      · have f12 := HF.out.f13 hb0
        subst f12
        subst f10
        go_wp2_with fail
        all_goals
          go_ret
          exact ⟨rfl, HBB.out⟩
    · have f10 := HF.out.f11 ha0
      by_cases hb0 : b < 0
      · have f12 := HF.out.f12 hb0
        subst f12
        subst f10
        go_wp2_with fail
        all_goals
          go_ret
          exact ⟨rfl, HBB.out⟩
      · have f12 := HF.out.f13 hb0
        subst f12
        subst f10
        go_wp2_with fail
        all_goals
          go_ret
          exact ⟨rfl, HBB.out⟩
  all_goals
    clear HX
    go_wp2_with fail
    refine (K7.out _).mono ?_
    rintro e w7 ⟨rfl, hB7⟩
    have H7 := hid (H6.out.trans (hB7.mono H6.out.size))
    clear hB7
    go_wp2_with fail
    refine (K8.out _).mono ?_
    rintro e w8 ⟨rfl, hB8⟩
    have H8 := hid (H7.out.trans (hB8.mono H7.out.size))
    clear hB8 H7
    obtain ⟨g1, g2, g3, g4, g6, f9⟩ := HG.out
    go_wp2_with fail
    clear g1 g2 g3 g4 g6 f1 f2 f6 f7 f8
    refine (K9.out _).mono ?_
    rintro e w9 ⟨rfl, hB9⟩
    have H9 := hid (H8.out.trans (hB9.mono H8.out.size))
    clear hB9 H8
    go_wp2_with fail
    refine (KA.out _).mono ?_
    rintro e wA ⟨rfl, hBA⟩
    have HA := hid (H9.out.trans (hBA.mono H9.out.size))
    clear hBA H9
    go_wp2_with fail
    refine (KB.out _).mono ?_
    rintro e wB ⟨rfl, hBB⟩
    have HBB := hid (HA.out.trans (hBB.mono HA.out.size))
    clear hBB HA
    by_cases ha0 : a < 0
    · have f10 := HF.out.f10 ha0
      by_cases hb0 : b < 0
      · have f12 := HF.out.f12 hb0
        subst f12
        subst f10
        go_wp2_with fail
        all_goals
          go_ret
          exact ⟨rfl, HBB.out⟩
      · have f12 := HF.out.f13 hb0
        subst f12
        subst f10
        go_wp2_with fail
        all_goals
          go_ret
          exact ⟨rfl, HBB.out⟩
    · have f10 := HF.out.f11 ha0
      by_cases hb0 : b < 0
      · have f12 := HF.out.f12 hb0
        subst f12
        subst f10
        go_wp2_with fail
        all_goals
          go_ret
          exact ⟨rfl, HBB.out⟩
      · have f12 := HF.out.f13 hb0
        subst f12
        subst f10
        go_wp2_with fail
        all_goals
          go_ret
          exact ⟨rfl, HBB.out⟩
end Go.Proofs.YtbmcofdodfcnnaaGreatDoor
