import Derived.Test.YtbmcofdodfcnnaaGreatDoorGV13
import Derived.Test.YtbmcofdodfcnnaaGreatDoorGQ
import Derived.Lib.SmallJoins
namespace Go.Proofs.YtbmcofdodfcnnaaGreatDoor
open Go.RowKit

theorem isName_is (k : Int) (t : ByteArray) (w : World) (ht : t.size ≤ 2000) :
    Calls Tryz.prog 226 #[.agg #[.int .i64 k, .string t]] w fun e w' => e = .returned (.bool (Pn.isNm k t.data.toList)) ∧ Below w.heap.size w w' := by
  have hlen : t.data.toList.length = t.size := by simp
  go_enter Tryz.func226, Tryz.ntmps226
  go_wp2_with (go_at_call 72; refine (Tryz.strings_Contains_one t 46 _).mono ?_; rintro e w' ⟨rfl, rfl⟩)
  all_goals
    go_ret
    refine ⟨ret_val (congrArg Value.bool ?_), (Below.refl _ _).alloc (Nat.le_refl _) _⟩
    unfold Pn.isNm
    rw [hlen]
    first
    | (rw [beq_false_of_ne ‹¬ k = 1›]; rfl)
    | (rw [decide_eq_false (p := t.size ≤ 8) (by omega)]; simp)
    | (rw [show (k == 1) = true from beq_iff_eq.2 ‹k = 1›, decide_eq_true (p := t.size ≤ 8) (by omega)]; rfl)

theorem world_or {w w' : World} (h : w' = w ∨ ∃ t, w' = Lib.bytesWorld w 5 t) : Below w.heap.size w w' := by
  rcases h with rfl | ⟨t, rfl⟩
  · exact Below.refl _ _
  · exact Joins.below_bytesWorld _ _ _ _ (Nat.le_refl _)

/-- Atoi, all ends -/
theorem atoi_any (t : ByteArray) (w : World) (ht : t.size ≤ 2000) (hE : Env w) :
    Calls Tryz.prog 272 #[.string t] w fun e w' => ∃ n v, e = .returned (.tuple #[.int .i64 n, v]) ∧ (-9223372036854775808 ≤ n ∧ n ≤ 9223372036854775807) ∧ Below w.heap.size w w' ∧
      ((∃ u, Lib.atoiAll t.data.toList = .ok u ∧ n = u ∧ v = .nilIface) ∨ ((∀ u, Lib.atoiAll t.data.toList ≠ .ok u) ∧ ∃ te pe, v = .iface te pe)) := by
  obtain ⟨te, pe, h4⟩ := hE.2.2.2.1
  obtain ⟨tf, pf, h5⟩ := hE.2.2.2.2
  rcases ha : Lib.atoiAll t.data.toList with u | _ | _
  · refine (Tryz.strconv_Atoi_ok t (by omega) u ha w).mono ?_
    rintro e w' ⟨rfl, hw⟩
    exact ⟨u, _, rfl, Pn.atoiAll_bd ha, world_or hw, .inl ⟨u, rfl, rfl, rfl⟩⟩
  · refine (Tryz.strconv_Atoi_syntax t (by omega) ha _ w h4 (.inr ⟨_, _, rfl⟩)).mono ?_
    rintro e w' ⟨N, rfl, _, _, hB⟩
    exact ⟨0, _, rfl, by omega, hB, .inr ⟨fun u h => (by cases h), _, _, rfl⟩⟩
  · refine (Tryz.strconv_Atoi_range t (by omega) ha _ w h5 (.inr ⟨_, _, rfl⟩)).mono ?_
    rintro e w' ⟨N, rfl, _, _, hB⟩
    refine ⟨_, _, rfl, ?_, hB, .inr ⟨fun u h => (by cases h), _, _, rfl⟩⟩
    unfold Lib.atoiSat
    split <;> omega

theorem readNumber_is (k : Int) (t : ByteArray) (w : World) (ht : t.size ≤ 2000) (hE : Env w) :
    Calls Tryz.prog 253 #[.agg #[.int .i64 k, .string t]] w fun e w' => ∃ n : Int, e = .returned (.tuple #[.int .i64 n, .bool (Pn.pnum k t.data.toList).isSome]) ∧ (∀ v, Pn.pnum k t.data.toList = some v → n = v) ∧ Below w.heap.size w w' := by
  have HE := hide (fun o => hE.alloc o)
  by_cases hk : (k != 2) = true
  · have hp : Pn.pnum k t.data.toList = none := by
      have : ¬ k = 2 := by simpa using hk
      simp [Pn.pnum, this]
    have HPN := hide hp
    clear hp
    go_enter Tryz.func253, Tryz.ntmps253
    go_wp2_with fail
    go_ret2
    exact ⟨0, by rw [HPN.out]; rfl, fun v h => (by rw [HPN.out] at h; cases h), (Below.refl _ _).alloc (Nat.le_refl _) _⟩
  · have hk' : (k != 2) = false := by simpa using hk
    have hk2 : k = 2 := by simpa using hk
    clear hk
    go_enter Tryz.func253, Tryz.ntmps253
    go_wp2_with fail
    refine (atoi_any t _ ht (HE.out _)).mono ?_
    rintro e w1 ⟨n, v, rfl, hn, hB, hv⟩
    have HB := hide (((Below.refl w.heap.size w).alloc (Nat.le_refl _) _).trans (hB.mono (by simp)))
    clear hB
    rcases hv with ⟨u, hu, hnu, rfl⟩ | ⟨hu, te, pe, rfl⟩
    · have HPN : Hid (Pn.pnum k t.data.toList = some n) := by show _ = _; simp [Pn.pnum, hk2, hu, hnu]
      clear hu hnu
      go_wp2_with fail
      go_quiet (fail)
      go_wp2_with fail
      go_ret2
      exact ⟨n, by rw [HPN.out]; rfl, fun v h => (by rw [HPN.out] at h; cases h; rfl), below_drewN HB.out _⟩
    · have HPN : Hid (Pn.pnum k t.data.toList = none) := by
        show _ = _
        cases h : Lib.atoiAll t.data.toList with
        | ok u => exact absurd h (hu u)
        | _ => simp [Pn.pnum, hk2, h]
      clear hu
      go_wp2_with fail
      go_quiet (fail)
      go_wp2_with fail
      go_ret2
      exact ⟨n, by rw [HPN.out]; rfl, fun v h => (by rw [HPN.out] at h; cases h), below_drewN HB.out _⟩

theorem showRegister_v (n : Int) (w : World) (h0 : -9223372036854775808 ≤ n) (h1 : n ≤ 9223372036854775807) (hE : Env w) :
    Calls Tryz.prog 113 #[.int .i64 n] w fun e w' => e = .returned (.string ⟨(Pn.regL n).toArray⟩) ∧ Below w.heap.size w w' :=
  (showRegister_is n w h0 h1 hE).mono fun _ _ ⟨s, he, _, hs, hB⟩ => ⟨by rw [he, str_ext hs.out], hB⟩

set_option maxHeartbeats 2000000 in
theorem readRegister_is (k : Int) (t : ByteArray) (w : World) (ht : t.size ≤ 2000) (hE : Env w) :
    Calls Tryz.prog 252 #[.agg #[.int .i64 k, .string t]] w fun e w' => e = .returned (.tuple #[.int .i64 ((Pn.preg t.data.toList).getD 0), .bool (Pn.preg t.data.toList).isSome]) ∧ Below w.heap.size w w' := by
  have HE := hide (fun o => hE.alloc o)
  by_cases hp : Lib.hasPrefix t.data.toList [120] = true
  · have htl : (Lib.trimPrefix t.data.toList [120]).length ≤ 2000 := by
      have e : t.data.toList.length = t.size := by simp
      have h2 : (List.drop [(120 : UInt8)].length t.data.toList).length ≤ t.data.toList.length := by rw [List.length_drop]; exact Nat.sub_le _ _
      unfold Lib.trimPrefix
      split
      · exact Nat.le_trans h2 (by omega)
      · omega
    go_enter Tryz.func252, Tryz.ntmps252
    go_wp2_with fail
    refine (Tryz.strings_CutPrefix t ⟨#[120]⟩ _).mono ?_
    rintro e w1 ⟨rfl, rfl⟩
    have hp' : Lib.hasPrefix t.data.toList (ByteArray.mk #[120]).data.toList = true := hp
    rw [hp']
    go_wp2_with fail
    refine (atoi_any _ _ (by simpa [ByteArray.size] using htl) (HE.out _)).mono ?_
    rintro e w1 ⟨n, v, rfl, hn, hB, hv⟩
    have HC := hide ((CellsAt.new w [.int .i64 k, .string t] 131).next hB)
    have HE1 : Hid (Env w1) := Env.below (HE.out _) hB (HE.out _).1
    have HB := hide (((Below.refl w.heap.size w).alloc (Nat.le_refl _) _).trans (hB.mono (by simp)))
    clear hB
    rcases hv with ⟨u, hu, hnu, rfl⟩ | ⟨hu, te, pe, rfl⟩
    · subst hnu
      by_cases h31 : 31 < n
      · have HPN : Hid (Pn.preg t.data.toList = none) := by
          show _ = _
          have hu' : Lib.atoiAll (Lib.trimPrefix t.data.toList [120]) = .ok n := by simpa using hu
          have : ¬ (n ≤ 31 ∧ Pn.regL n = t.data.toList) := by omega
          simp only [Pn.preg, hp, if_true, hu', if_neg this]
        clear hu
        go_wp2_with fail
        go_quiet (fail)
        go_wp2_with fail
        go_ret2
        exact ⟨by rw [HPN.out]; rfl, below_drewN HB.out _⟩
      · have h31' : n ≤ 31 := by omega
        have x1 := cell_regrown (HC.out.2.2 1 _ rfl)
        have hu' : Lib.atoiAll (Lib.trimPrefix t.data.toList [120]) = .ok n := by simpa using hu
        by_cases hq : Pn.regL n = t.data.toList
        · have HPN : Hid (Pn.preg t.data.toList = some n) := by
            show _ = _
            simp only [Pn.preg, hp, if_true, hu', if_pos (And.intro h31' hq)]
          have hqq : (Pn.regL n == t.toList) = true := by rw [ByteArray.toList_eq]; simpa using hq
          clear hu hu'
          go_wp2_with fail
          refine wp_region_quiet_below (by kernel_rfl) (by kernel_rfl) ?_
          repeat (quiet_step (first
            | (go_at_call 113; exact Calls.regrown_of (showRegister_v n _ hn.1 hn.2 (Env.below HE1.out (below_regrown _ _ _) HE1.out.1)))))
          refine wpQuiet_nil ?_
          intro _ hw'
          obtain ⟨⟨dq, osq⟩, hw''⟩ := hw'
          subst hw''
          go_wp2_with fail
          go_ret2
          exact ⟨by rw [HPN.out]; rfl, Below.trans HB.out ((below_regrown w1 dq osq).mono HB.out.size)⟩
        · have HPN : Hid (Pn.preg t.data.toList = none) := by
            show _ = _
            have : ¬ (n ≤ 31 ∧ Pn.regL n = t.data.toList) := fun h => hq h.2
            simp only [Pn.preg, hp, if_true, hu', if_neg this]
          have hqq : (Pn.regL n == t.toList) = false := by rw [ByteArray.toList_eq]; simpa using hq
          clear hu hu'
          go_wp2_with fail
          refine wp_region_quiet_below (by kernel_rfl) (by kernel_rfl) ?_
          repeat (quiet_step (first
            | (go_at_call 113; exact Calls.regrown_of (showRegister_v n _ hn.1 hn.2 (Env.below HE1.out (below_regrown _ _ _) HE1.out.1)))))
          refine wpQuiet_nil ?_
          intro _ hw'
          obtain ⟨⟨dq, osq⟩, hw''⟩ := hw'
          subst hw''
          go_wp2_with fail
          go_ret2
          exact ⟨by rw [HPN.out]; rfl, Below.trans HB.out ((below_regrown w1 dq osq).mono HB.out.size)⟩
    · have HPN : Hid (Pn.preg t.data.toList = none) := by
        show _ = _
        have hu' : ∀ u, Lib.atoiAll (Lib.trimPrefix t.data.toList [120]) ≠ .ok u := by simpa using hu
        cases h : Lib.atoiAll (Lib.trimPrefix t.data.toList [120]) with
        | ok u => exact absurd h (hu' u)
        | _ => simp [Pn.preg, hp, h]
      clear hu
      go_wp2_with fail
      go_quiet (fail)
      go_wp2_with fail
      go_ret2
      exact ⟨by rw [HPN.out]; rfl, below_drewN HB.out _⟩
  · have hp' : Lib.hasPrefix t.data.toList (ByteArray.mk #[120]).data.toList = false := by simpa using hp
    have HPN : Hid (Pn.preg t.data.toList = none) := by
      show _ = _
      simp [Pn.preg, hp]
    go_enter Tryz.func252, Tryz.ntmps252
    go_wp2_with fail
    refine (Tryz.strings_CutPrefix t ⟨#[120]⟩ _).mono ?_
    rintro e w1 ⟨rfl, rfl⟩
    rw [hp']
    go_wp2_with fail
    go_ret2
    exact ⟨by rw [HPN.out]; rfl, (Below.refl _ _).alloc (Nat.le_refl _) _⟩
end Go.Proofs.YtbmcofdodfcnnaaGreatDoor
