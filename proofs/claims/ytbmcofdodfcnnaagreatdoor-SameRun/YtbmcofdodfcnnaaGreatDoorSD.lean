import Derived.Test.YtbmcofdodfcnnaaGreatDoorGSC
import Derived.Lib.QuietBelow
namespace Go.Proofs.YtbmcofdodfcnnaaGreatDoor
open Go.RowKit
set_option maxRecDepth 100000 in
set_option maxHeartbeats 80000000 in
theorem program_is (l : List RawL) (B o cap : Nat) (w : World) (hE : Env w) (hl : ∀ x ∈ l, RawOk x) (hll : l.length < 10000000000000) (hB : B < w.heap.size)
    (hL : ∀ k x, l[k]? = some x → ∀ q u, (rawC x)[q]? = some u → w.cell? ⟨B, o + k * 6 + q, none⟩ = some u) :
    Calls Tryz.prog 22 #[.slice (some ⟨B, o, none⟩) l.length cap] w fun e w' => ∃ (ps : List Pn.Sta) (s : ByteArray), e = .returned (.string s) ∧ ps.length ≤ 24 ∧ (∀ x ∈ ps, Pn.StaOk ps.length x) ∧ s.data.toList = Pn.progT ps ∧ Below w.heap.size w w' := by
  have HE := hid hE
  clear hE
  go_enter Tryz.func22, Tryz.ntmps22
  go_upto_if 24 with fail
  refine world_as (P := Tables w) (G := fun W => Code.wp _ _ _ _ W) _ (tables_new w 9) ?_
  intro W0 hT0
  go_cut [9] (fun v wx => (∃ N : Nat, v = .int .i64 N ∧ N ≤ 24 ∧ N ≤ l.length) ∧ wx = W0)
  case first =>
    go_wp2_with fail
    all_goals
      go_meet
      case rel => first | exact ⟨⟨24, rfl, by omega, by omega⟩, rfl⟩ | exact ⟨⟨l.length, rfl, by omega, by omega⟩, rfl⟩
  case rest =>
    obtain ⟨⟨N, rfl, hN, hNl⟩, rfl⟩ := hcut
    go_wp2_with fail
    go_loopg [8, 10] N (fun g p q wr => ∃ (ps : List Pn.Sta) (s : ByteArray), p = .string s ∧ q = .int .i64 ps.length ∧ g + ps.length = N ∧ (∀ x ∈ ps, Pn.StaOk N x) ∧
      s.size ≤ 13 + 200 * ps.length ∧ Hid (s.data.toList = [108, 105, 32, 120, 51, 49, 44, 32, 50, 48, 52, 56, 10] ++ Pn.bodyT 0 ps) ∧ Tables w wr)
    case atStart => exact ⟨[], _, rfl, rfl, by simp, (fun x hx => by cases hx), by simp [ByteArray.size], hid (by simp [Pn.bodyT]), hT0⟩
    case round =>
      obtain ⟨ps, s, rfl, rfl, hg, hok, hsz, HS, hT⟩ := hrel
      by_cases hlt : ps.length < N
      · obtain ⟨x, hx⟩ : ∃ x, l[ps.length]? = some x := ⟨_, List.getElem?_eq_getElem (by omega)⟩
        have hxo := hl x (List.mem_of_getElem? hx)
        have yc : ∀ q u, (rawC x)[q]? = some u → wr.cell? ⟨B, o + ps.length * 6 + q, none⟩ = some u := fun q u h => (hT.b.cell (p := ⟨B, o + ps.length * 6 + q, none⟩) hB).trans (hL _ _ hx q u h)
        obtain ⟨xk, xo, xa, xb, xc, xn⟩ := x
        unfold rawC at yc
        simp only at yc
        have y0 := yc 0 _ rfl
        have y1 := yc 1 _ rfl
        have y2 := yc 2 _ rfl
        have y3 := yc 3 _ rfl
        have y4 := yc 4 _ rfl
        have y5 := yc 5 _ rfl
        simp only [Nat.add_zero] at y0
        clear yc
        have hlti : (ps.length : Int) < N := by omega
        have hlt2 : (ps.length : Int) < l.length := by omega
        obtain ⟨bo, ba, bb, bc, bn⟩ := hxo
        simp only at bo ba bb bc bn
        go_wp2_with fail
        have HT := hid (hT.next ((Below.refl _ _).alloc (Nat.le_refl _) (.cells [.int .i64 xk, .int .i64 xo, .int .i64 xa, .int .i64 xb, .int .i64 xc, .int .i64 xn].toArray 80)))
        have HC := hid (CellsAt.new wr [.int .i64 xk, .int .i64 xo, .int .i64 xa, .int .i64 xb, .int .i64 xc, .int .i64 xn] 80)
        clear y0 y1 y2 y3 y4 y5 hT hx hL hT0
        generalize wr.alloc _ = W1 at *
        refine (pick_any xa 11 _ (by omega) (by omega) ba).mono ?_
        rintro e w1 ⟨⟨ra, rfl, hra⟩, rfl⟩
        go_wp2_with fail
        refine (itoa_is (5 + ra) _ (by omega) (by omega) (HE.out.below HT.out.b HE.out.1)).mono ?_
        rintro e w2 ⟨qa, rfl, hqa, HQ, hB2⟩
        have HT := hid (HT.out.next hB2)
        have HC := hid (HC.out.next hB2)
        have HA := hid (regT_new hqa HQ.out)
        have hqi : ¬ (9223372036854775807 : Int) < 1 + qa.size := by omega
        have hqn : ¬ 9223372036854775807 < 1 + qa.size := by omega
        have y3 := HC.out.2.2 3 _ rfl
        clear hB2 HQ
        go_wp2_with fail
        generalize (⟨#[120]⟩ ++ qa : ByteArray) = sa at *
        clear hqi hqn hqa
        refine (pick_any xb 11 _ (by omega) (by omega) bb).mono ?_
        rintro e w1 ⟨⟨rb, rfl, hrb⟩, rfl⟩
        go_wp2_with fail
        refine (itoa_is (5 + rb) _ (by omega) (by omega) (HE.out.below HT.out.b HE.out.1)).mono ?_
        rintro e w2 ⟨qb, rfl, hqb, HQ, hB2⟩
        have HT := hid (HT.out.next hB2)
        have HC := hid (HC.out.next hB2)
        have HBT := hid (regT_new hqb HQ.out)
        have hqi : ¬ (9223372036854775807 : Int) < 1 + qb.size := by omega
        have hqn : ¬ 9223372036854775807 < 1 + qb.size := by omega
        have y4 := HC.out.2.2 4 _ rfl
        clear hB2 HQ y3
        go_wp2_with fail
        generalize (⟨#[120]⟩ ++ qb : ByteArray) = sb0 at *
        clear hqi hqn hqb
        refine (pick_any xc 11 _ (by omega) (by omega) bc).mono ?_
        rintro e w1 ⟨⟨rc, rfl, hrc⟩, rfl⟩
        go_wp2_with fail
        refine (itoa_is (5 + rc) _ (by omega) (by omega) (HE.out.below HT.out.b HE.out.1)).mono ?_
        rintro e w2 ⟨qc, rfl, hqc, HQ, hB2⟩
        have HT := hid (HT.out.next hB2)
        have HC := hid (HC.out.next hB2)
        have HCT := hid (regT_new hqc HQ.out)
        have hqi : ¬ (9223372036854775807 : Int) < 1 + qc.size := by omega
        have hqn : ¬ 9223372036854775807 < 1 + qc.size := by omega
        have y4 := HC.out.2.2 4 _ rfl
        clear hB2 HQ
        go_wp2_with fail
        generalize (⟨#[120]⟩ ++ qc : ByteArray) = sc0 at *
        clear hqi hqn hqc
        refine (pick_any xc 5 _ (by omega) (by omega) bc).mono ?_
        rintro e w5 ⟨⟨r5, rfl, hr5⟩, rfl⟩
        go_upto_if 55 with fail
        go_cut [14] (fun v wx => (∃ (sc : ByteArray) (C : Int), v = .string sc ∧ Hid (RegT sc C) ∧ (C = 0 ∨ Pn.regOk C)) ∧ w5 = wx)
        case first =>
          go_wp2_with fail
          all_goals
            go_meet
            case rel => first | exact ⟨⟨_, 0, rfl, hid regT_zero, .inl rfl⟩, rfl⟩ | exact ⟨⟨_, _, rfl, HCT, .inr ⟨by omega, by omega⟩⟩, rfl⟩
        case rest =>
          as_aux_lemma =>
          obtain ⟨⟨sc, C, rfl, HCT, hC⟩, hw⟩ := hcut
          subst hw
          have y3 := HC.out.2.2 3 _ rfl
          go_wp2_with fail
          refine (pick_any xb 3 _ (by omega) (by omega) bb).mono ?_
          rintro e w6 ⟨⟨r3, rfl, hr3⟩, rfl⟩
          go_upto_if 59 with fail
          go_cut [13] (fun v wx => (∃ (sb : ByteArray) (R : Int), v = .string sb ∧ Hid (RegT sb R) ∧ Pn.regOk R) ∧ w6 = wx)
          case first =>
            go_wp2_with fail
            all_goals
              go_meet
              case rel => first | exact ⟨⟨_, _, rfl, HA, ⟨by omega, by omega⟩⟩, rfl⟩ | exact ⟨⟨_, _, rfl, HBT, ⟨by omega, by omega⟩⟩, rfl⟩
          case rest =>
            as_aux_lemma =>
            obtain ⟨⟨sb, R, rfl, HBT, hR⟩, hw⟩ := hcut
            subst hw
            have y5 := HC.out.2.2 5 _ rfl
            go_wp2_with fail
            refine (pick_one xn N _ (by omega) bn).mono ?_
            rintro e w1 ⟨⟨tg, rfl, htg⟩, rfl⟩
            go_wp2_with fail
            refine (itoa_is tg _ (by omega) (by omega) (HE.out.below HT.out.b HE.out.1)).mono ?_
            rintro e w3 ⟨qt, rfl, hqt, HQ, hB2⟩
            have HT := hid (HT.out.next hB2)
            have HC := hid (HC.out.next hB2)
            have HNT := hid (nmT_new hqt HQ.out)
            have hqi : ¬ (9223372036854775807 : Int) < 1 + qt.size := by omega
            have hqn : ¬ 9223372036854775807 < 1 + qt.size := by omega
            have hqs : ¬ (9223372036854775807 : Int) < s.size + 1 := by omega
            have hqsn : ¬ 9223372036854775807 < s.size + 1 := by omega
            clear hB2 HQ
            go_wp2_with fail
            generalize (⟨#[110]⟩ ++ qt : ByteArray) = st at *
            clear hqi hqn hqt hqs hqsn
            refine (itoa_is ps.length _ (by omega) (by omega) (HE.out.below HT.out.b HE.out.1)).mono ?_
            rintro e w4 ⟨qk, rfl, hqk, HQ, hB2⟩
            have HT := hid (HT.out.next hB2)
            have HC := hid (HC.out.next hB2)
            have HNK := hid (nmT_new hqk HQ.out)
            have u1 : ¬ (9223372036854775807 : Int) < s.size + 1 + qk.size := by omega
            have u2 : ¬ 9223372036854775807 < s.size + 1 + qk.size := by omega
            have u3 : ¬ (9223372036854775807 : Int) < s.size + 1 + qk.size + 2 := by omega
            have u4 : ¬ 9223372036854775807 < s.size + 1 + qk.size + 2 := by omega
            clear hB2 HQ
            go_upto_block 2 with fail
            have HS2 : Hid ((s ++ ⟨#[110]⟩ ++ qk ++ ⟨#[58, 32]⟩ : ByteArray).size ≤ 13 + 200 * ps.length + 24 ∧ (s ++ ⟨#[110]⟩ ++ qk ++ ⟨#[58, 32]⟩ : ByteArray).data.toList = s.data.toList ++ Pn.nmL ps.length ++ [58, 32]) := hid (by
              have e1 := HNK.out.2
              have e2 : (⟨#[110]⟩ : ByteArray).size = 1 := rfl
              have e3 : (⟨#[58, 32]⟩ : ByteArray).size = 2 := rfl
              refine ⟨by simp only [ByteArray.size_append]; omega, ?_⟩
              rw [← e1]
              simp)
            generalize (s ++ ⟨#[110]⟩ ++ qk ++ ⟨#[58, 32]⟩ : ByteArray) = s2 at *
            clear u1 u2 u3 u4 hqk HNK
            have hz2 := HS2.out.1
            have hza := HA.out.1
            have hzb := HBT.out.1
            have hzc := HCT.out.1
            have hzt := HNT.out.1
            have hRA : Pn.regOk (5 + (ra : Int)) := ⟨by omega, by omega⟩
            go_cut [8] (fun v wx => (∃ (s3 : ByteArray) (x : Pn.Sta), v = .string s3 ∧ Pn.StaOk N x ∧ s3.size ≤ 13 + 200 * ps.length + 150 ∧ Hid (s3.data.toList = s2.data.toList ++ Pn.staT x)) ∧ Hid (Tables w wx))
            case first =>
              as_aux_lemma =>
              have y0 := HC.out.2.2 0 _ rfl
              by_cases k0 : xk = 0
              · as_aux_lemma =>
                  subst k0
                  have y1 := HC.out.2.2 1 _ rfl
                  go_wp2_with fail
                  refine (pick_any xo 6 _ (by omega) (by omega) bo).mono ?_
                  rintro e w8 ⟨⟨ro, rfl, hro⟩, rfl⟩
                  have c1 := HT.out.bs.2.2 ro _ (names_at (bs_at ro hro))
                  have hroi : (ro : Int) < 6 := by omega
                  have HO := hid (opT_at (ro + 53) (by omega))
                  generalize (⟨(Pn.row (ro + 53)).name.toArray⟩ : ByteArray) = nm at c1 HO
                  have hzn := HO.out.1
                  have u1 : ¬ (9223372036854775807 : Int) < s2.size + nm.size := by omega
                  have u2 : ¬ 9223372036854775807 < s2.size + nm.size := by omega
                  have u3 : ¬ (9223372036854775807 : Int) < s2.size + nm.size + 1 := by omega
                  have u4 : ¬ 9223372036854775807 < s2.size + nm.size + 1 := by omega
                  have u5 : ¬ (9223372036854775807 : Int) < s2.size + nm.size + 1 + sa.size := by omega
                  have u6 : ¬ 9223372036854775807 < s2.size + nm.size + 1 + sa.size := by omega
                  have u7 : ¬ (9223372036854775807 : Int) < s2.size + nm.size + 1 + sa.size + 2 := by omega
                  have u8 : ¬ 9223372036854775807 < s2.size + nm.size + 1 + sa.size + 2 := by omega
                  have u9 : ¬ (9223372036854775807 : Int) < s2.size + nm.size + 1 + sa.size + 2 + sc.size := by omega
                  have u10 : ¬ 9223372036854775807 < s2.size + nm.size + 1 + sa.size + 2 + sc.size := by omega
                  have u11 : ¬ (9223372036854775807 : Int) < s2.size + nm.size + 1 + sa.size + 2 + sc.size + 2 := by omega
                  have u12 : ¬ 9223372036854775807 < s2.size + nm.size + 1 + sa.size + 2 + sc.size + 2 := by omega
                  have u13 : ¬ (9223372036854775807 : Int) < s2.size + nm.size + 1 + sa.size + 2 + sc.size + 2 + st.size := by omega
                  have u14 : ¬ 9223372036854775807 < s2.size + nm.size + 1 + sa.size + 2 + sc.size + 2 + st.size := by omega
                  go_wp2_with fail
                  go_meet
                  case rel =>
                    refine ⟨⟨_, ⟨0, ⟨(ro : Int) + 54, 0, 5 + ra, C, 0⟩, tg⟩, rfl, Pn.brS_ok hro hRA hC (by omega), ?_, hid ?_⟩, HT⟩
                    · simp only [ByteArray.size_append]; have e2 : (⟨#[32]⟩ : ByteArray).size = 1 := rfl; have e3 : (⟨#[44, 32]⟩ : ByteArray).size = 2 := rfl; omega
                    · rw [Pn.brS_text, ← HO.out.2, ← HA.out.2, ← HCT.out.2, ← HNT.out.2]; simp
              · by_cases k1 : xk = 1
                · as_aux_lemma =>
                    subst k1
                    have u1 : ¬ (9223372036854775807 : Int) < s2.size + 2 := by omega
                    have u2 : ¬ 9223372036854775807 < s2.size + 2 := by omega
                    have u3 : ¬ (9223372036854775807 : Int) < s2.size + 2 + st.size := by omega
                    have u4 : ¬ 9223372036854775807 < s2.size + 2 + st.size := by omega
                    go_wp2_with fail
                    go_meet
                    case rel =>
                      refine ⟨⟨_, ⟨1, ⟨0, 0, 0, 0, 0⟩, tg⟩, rfl, .inr (.inl ⟨rfl, Nat.le_of_lt_succ htg⟩), ?_, hid ?_⟩, HT⟩
                      · simp only [ByteArray.size_append]; have e2 : (⟨#[106, 32]⟩ : ByteArray).size = 2 := rfl; omega
                      · rw [Pn.jS_text, ← HNT.out.2]; simp
                · by_cases k2 : xk = 2
                  · as_aux_lemma =>
                      subst k2
                      have y5 := HC.out.2.2 5 _ rfl
                      have u1 : ¬ (9223372036854775807 : Int) < s2.size + 3 := by omega
                      have u2 : ¬ 9223372036854775807 < s2.size + 3 := by omega
                      have u3 : ¬ (9223372036854775807 : Int) < s2.size + 3 + sa.size := by omega
                      have u4 : ¬ 9223372036854775807 < s2.size + 3 + sa.size := by omega
                      have u5 : ¬ (9223372036854775807 : Int) < s2.size + 3 + sa.size + 2 := by omega
                      have u6 : ¬ 9223372036854775807 < s2.size + 3 + sa.size + 2 := by omega
                      go_wp2_with fail
                      refine (pick_any xn 4294967296 _ (by omega) (by omega) bn).mono ?_
                      rintro e w8 ⟨⟨rn, rfl, hrn⟩, rfl⟩
                      go_wp2_with fail
                      refine (itoa_is ((rn : Int) - 2147483648) _ (by omega) (by omega) (HE.out.below HT.out.b HE.out.1)).mono ?_
                      rintro e w9 ⟨qn, rfl, hqn, HQ, hB2⟩
                      have HT := hid (HT.out.next hB2)
                      clear hB2
                      have u7 : ¬ (9223372036854775807 : Int) < s2.size + 3 + sa.size + 2 + qn.size := by omega
                      have u8 : ¬ 9223372036854775807 < s2.size + 3 + sa.size + 2 + qn.size := by omega
                      go_wp2_with fail
                      go_meet
                      case rel =>
                        refine ⟨⟨_, ⟨2, ⟨0, 5 + ra, 0, 0, (rn : Int) - 2147483648⟩, 0⟩, rfl, .inr (.inr (.inl ⟨rfl, hRA, by simp only; omega, by simp only; omega⟩)), ?_, hid ?_⟩, HT⟩
                        · simp only [ByteArray.size_append]; have e2 : (⟨#[108, 105, 32]⟩ : ByteArray).size = 3 := rfl; have e3 : (⟨#[44, 32]⟩ : ByteArray).size = 2 := rfl; omega
                        · rw [Pn.liS_text, ← HA.out.2, ← HQ.out]; simp
                  · by_cases k3 : xk = 3
                    · as_aux_lemma =>
                        subst k3
                        obtain ⟨k, hk, hkm⟩ := at_mem (O := lsO) (r := pickP xo 11) (pickP_lt xo 11 (by omega))
                        have HP1 : Hid (∀ w', Calls Tryz.prog 26 #[.int .i64 xo, .int .i64 11] w' fun e w'' => e = .returned (.int .i64 (pickP xo 11)) ∧ Below w'.heap.size w' w'') := hid (fun w' => pick_b xo 11 w' (by omega) (by omega) bo)
                        have HP2 : Hid (∀ w', Calls Tryz.prog 26 #[.int .i64 xn, .int .i64 2000] w' fun e w'' => e = .returned (.int .i64 (pickP xn 2000)) ∧ Below w'.heap.size w' w'') := hid (fun w' => pick_b xn 2000 w' (by omega) (by omega) bn)
                        have hr1 : pickP xo 11 < 11 := pickP_lt _ _ (by omega)
                        have hr2 : pickP xn 2000 < 2000 := pickP_lt _ _ (by omega)
                        generalize pickP xo 11 = r1 at *
                        generalize pickP xn 2000 = r2 at *
                        have HI := hid (fun w' h => itoa_b ((r2 : Int)) w' (by omega) (by omega) h)
                        have HQ : Hid ((⟨(Lib.itoa ((r2 : Int))).toArray⟩ : ByteArray).data.toList = Lib.itoa ((r2 : Int))) := hid rfl
                        have hqs := itoa_sz ((r2 : Int)) (by omega) (by omega)
                        generalize (⟨(Lib.itoa ((r2 : Int))).toArray⟩ : ByteArray) = qn at HI HQ hqs
                        have c1 := cell_regrown (HT.out.ls.2.2 r1 _ (names_at hk))
                        have HO := hid (opT_at k (Pn.ls_kind k hkm).2.1)
                        generalize (⟨(Pn.row k).name.toArray⟩ : ByteArray) = nm at c1 HO
                        have hzn := HO.out.1
                        have z1 := cell_regrown (HC.out.2.2 1 _ rfl)
                        have z5 := cell_regrown (HC.out.2.2 5 _ rfl)
                        have hr1i : (r1 : Int) < 11 := by omega
                        have wn : IntKind.i64.wrap ((r2 : Int)) = (r2 : Int) := IntWalk.i64_in _ (by omega)
                        have u1 : ¬ (9223372036854775807 : Int) < s2.size + nm.size := by omega
                        have u2 : ¬ 9223372036854775807 < s2.size + nm.size := by omega
                        have u3 : ¬ (9223372036854775807 : Int) < s2.size + nm.size + 1 := by omega
                        have u4 : ¬ 9223372036854775807 < s2.size + nm.size + 1 := by omega
                        have u5 : ¬ (9223372036854775807 : Int) < s2.size + nm.size + 1 + sa.size := by omega
                        have u6 : ¬ 9223372036854775807 < s2.size + nm.size + 1 + sa.size := by omega
                        have u7 : ¬ (9223372036854775807 : Int) < s2.size + nm.size + 1 + sa.size + 2 := by omega
                        have u8 : ¬ 9223372036854775807 < s2.size + nm.size + 1 + sa.size + 2 := by omega
                        have u9 : ¬ (9223372036854775807 : Int) < s2.size + nm.size + 1 + sa.size + 2 + qn.size := by omega
                        have u10 : ¬ 9223372036854775807 < s2.size + nm.size + 1 + sa.size + 2 + qn.size := by omega
                        have u11 : ¬ (9223372036854775807 : Int) < s2.size + nm.size + 1 + sa.size + 2 + qn.size + 5 := by omega
                        have u12 : ¬ 9223372036854775807 < s2.size + nm.size + 1 + sa.size + 2 + qn.size + 5 := by omega
                        go_wp2_with fail
                        refine wp_region_quiet_below (by kernel_rfl) (by kernel_rfl) ?_
                        repeat (quiet_step (first
                          | (go_at_call 26; first | with_reducible exact Calls.regrown_of (HP1.out _) | with_reducible exact Calls.regrown_of (HP2.out _))
                          | (go_at_call 43; exact Calls.regrown_of (HI.out _ (HE.out.below (HT.out.next (below_regrown _ _ _)).b HE.out.1)))))
                        refine wpQuiet_nil ?_
                        intro _ hw'
                        obtain ⟨⟨dq, osq⟩, hw''⟩ := hw'
                        subst hw''
                        have HT := hid (HT.out.next (below_regrown _ dq osq))
                        go_wp2_with fail
                        go_meet
                        case rel =>
                          refine ⟨⟨_, Pn.memS k (5 + ra) r2, rfl, Pn.memS_ok N hkm hRA (by omega) (by omega), ?_, hid ?_⟩, HT⟩
                          · simp only [ByteArray.size_append]; have e2 : (⟨#[32]⟩ : ByteArray).size = 1 := rfl; have e3 : (⟨#[44, 32]⟩ : ByteArray).size = 2 := rfl; have e4 : (⟨#[40, 120, 51, 49, 41]⟩ : ByteArray).size = 5 := rfl; omega
                          · rw [Pn.memS_text hkm, ← HO.out.2, ← HA.out.2, ← HQ.out]; simp
                    · have b0 : (xk == 0) = false := by simpa using k0
                      have b1 : (xk == 1) = false := by simpa using k1
                      have b2 : (xk == 2) = false := by simpa using k2
                      have b3 : (xk == 3) = false := by simpa using k3
                      have y1 := HC.out.2.2 1 _ rfl
                      have bq := inB_div bo
                      have wq : IntKind.i64.wrap (xo.tdiv 3) = xo.tdiv 3 := IntWalk.i64_in _ (by obtain ⟨e1, e2⟩ := bq; omega)
                      have wq2 : wrap64 (xo.tdiv 3) = xo.tdiv 3 := by rw [wrap64_eq]; exact wq
                      go_wp2_with fail
                      refine (pick_any xo 3 _ (by omega) (by omega) bo).mono ?_
                      rintro e w8 ⟨⟨rz, rfl, hrz⟩, rfl⟩
                      by_cases hz0 : rz = 0
                      · have bz : ((rz : Int) == 0) = true := by subst hz0; rfl
                        clear hz0
                        as_aux_lemma =>
                          obtain ⟨k, hk, hkm⟩ := at_mem (O := isO) (r := pickP (xo.tdiv 3) 7) (pickP_lt (xo.tdiv 3) 7 (by omega))
                          have HP1 : Hid (∀ w', Calls Tryz.prog 26 #[.int .i64 (xo.tdiv 3), .int .i64 7] w' fun e w'' => e = .returned (.int .i64 (pickP (xo.tdiv 3) 7)) ∧ Below w'.heap.size w' w'') := hid (fun w' => pick_b (xo.tdiv 3) 7 w' (by omega) (by omega) bq)
                          have HP2 : Hid (∀ w', Calls Tryz.prog 26 #[.int .i64 xn, .int .i64 4096] w' fun e w'' => e = .returned (.int .i64 (pickP xn 4096)) ∧ Below w'.heap.size w' w'') := hid (fun w' => pick_b xn 4096 w' (by omega) (by omega) bn)
                          have hr1 : pickP (xo.tdiv 3) 7 < 7 := pickP_lt _ _ (by omega)
                          have hr2 : pickP xn 4096 < 4096 := pickP_lt _ _ (by omega)
                          generalize pickP (xo.tdiv 3) 7 = r1 at *
                          generalize pickP xn 4096 = r2 at *
                          have HI := hid (fun w' h => itoa_b ((r2 : Int) - 2048) w' (by omega) (by omega) h)
                          have HQ : Hid ((⟨(Lib.itoa ((r2 : Int) - 2048)).toArray⟩ : ByteArray).data.toList = Lib.itoa ((r2 : Int) - 2048)) := hid rfl
                          have hqs := itoa_sz ((r2 : Int) - 2048) (by omega) (by omega)
                          generalize (⟨(Lib.itoa ((r2 : Int) - 2048)).toArray⟩ : ByteArray) = qn at HI HQ hqs
                          have c1 := cell_regrown (HT.out.is.2.2 r1 _ (names_at hk))
                          have HO := hid (opT_at k (Pn.is_kind k hkm).2.1)
                          generalize (⟨(Pn.row k).name.toArray⟩ : ByteArray) = nm at c1 HO
                          have hzn := HO.out.1
                          have z1 := cell_regrown (HC.out.2.2 1 _ rfl)
                          have z5 := cell_regrown (HC.out.2.2 5 _ rfl)
                          have hr1i : (r1 : Int) < 7 := by omega
                          have wn : IntKind.i64.wrap ((r2 : Int) - 2048) = (r2 : Int) - 2048 := IntWalk.i64_in _ (by omega)
                          have u1 : ¬ (9223372036854775807 : Int) < s2.size + nm.size := by omega
                          have u2 : ¬ 9223372036854775807 < s2.size + nm.size := by omega
                          have u3 : ¬ (9223372036854775807 : Int) < s2.size + nm.size + 1 := by omega
                          have u4 : ¬ 9223372036854775807 < s2.size + nm.size + 1 := by omega
                          have u5 : ¬ (9223372036854775807 : Int) < s2.size + nm.size + 1 + sa.size := by omega
                          have u6 : ¬ 9223372036854775807 < s2.size + nm.size + 1 + sa.size := by omega
                          have u7 : ¬ (9223372036854775807 : Int) < s2.size + nm.size + 1 + sa.size + 2 := by omega
                          have u8 : ¬ 9223372036854775807 < s2.size + nm.size + 1 + sa.size + 2 := by omega
                          have u9 : ¬ (9223372036854775807 : Int) < s2.size + nm.size + 1 + sa.size + 2 + sb.size := by omega
                          have u10 : ¬ 9223372036854775807 < s2.size + nm.size + 1 + sa.size + 2 + sb.size := by omega
                          have u11 : ¬ (9223372036854775807 : Int) < s2.size + nm.size + 1 + sa.size + 2 + sb.size + 2 := by omega
                          have u12 : ¬ 9223372036854775807 < s2.size + nm.size + 1 + sa.size + 2 + sb.size + 2 := by omega
                          have u13 : ¬ (9223372036854775807 : Int) < s2.size + nm.size + 1 + sa.size + 2 + sb.size + 2 + qn.size := by omega
                          have u14 : ¬ 9223372036854775807 < s2.size + nm.size + 1 + sa.size + 2 + sb.size + 2 + qn.size := by omega
                          go_wp2_with fail
                          refine wp_region_quiet_below (by kernel_rfl) (by kernel_rfl) ?_
                          repeat (quiet_step (first
                            | (go_at_call 26; first | with_reducible exact Calls.regrown_of (HP1.out _) | with_reducible exact Calls.regrown_of (HP2.out _))
                            | (go_at_call 43; exact Calls.regrown_of (HI.out _ (HE.out.below (HT.out.next (below_regrown _ _ _)).b HE.out.1)))))
                          refine wpQuiet_nil ?_
                          intro _ hw'
                          obtain ⟨⟨dq, osq⟩, hw''⟩ := hw'
                          subst hw''
                          have HT := hid (HT.out.next (below_regrown _ dq osq))
                          go_wp2_with fail
                          go_meet
                          case rel =>
                            refine ⟨⟨_, ⟨3, ⟨(k : Int) + 1, 5 + ra, R, 0, (r2 : Int) - 2048⟩, 0⟩, rfl, Pn.isS_ok N hkm hRA hR (by omega) (by omega), ?_, hid ?_⟩, HT⟩
                            · simp only [ByteArray.size_append]; have e2 : (⟨#[32]⟩ : ByteArray).size = 1 := rfl; have e3 : (⟨#[44, 32]⟩ : ByteArray).size = 2 := rfl; omega
                            · rw [Pn.immS_text (.inl (Pn.is_kind k hkm).2.2), ← HO.out.2, ← HA.out.2, ← HBT.out.2, ← HQ.out]; simp
                      · have bz : ((rz : Int) == 0) = false := by simpa using hz0
                        clear hz0
                        go_wp2_with fail
                        refine (pick_any xo 3 _ (by omega) (by omega) bo).mono ?_
                        rintro e w9 ⟨⟨ry, rfl, hry⟩, rfl⟩
                        by_cases hy1 : ry = 1
                        · have by1 : ((ry : Int) == 1) = true := by subst hy1; rfl
                          have y5 := HC.out.2.2 5 _ rfl
                          clear hy1
                          go_wp2_with fail
                          refine (pick_any xn 4 _ (by omega) (by omega) bn).mono ?_
                          rintro e w10 ⟨⟨r4, rfl, hr4⟩, rfl⟩
                          by_cases h40 : r4 = 0
                          · have b40 : ((r4 : Int) == 0) = true := by subst h40; rfl
                            clear h40
                            as_aux_lemma =>
                              obtain ⟨k, hk, hkm⟩ := at_mem (O := shO) (r := pickP (xo.tdiv 3) 3) (pickP_lt (xo.tdiv 3) 3 (by omega))
                              have HP1 : Hid (∀ w', Calls Tryz.prog 26 #[.int .i64 (xo.tdiv 3), .int .i64 3] w' fun e w'' => e = .returned (.int .i64 (pickP (xo.tdiv 3) 3)) ∧ Below w'.heap.size w' w'') := hid (fun w' => pick_b (xo.tdiv 3) 3 w' (by omega) (by omega) bq)
                              have HP2 : Hid (∀ w', Calls Tryz.prog 26 #[.int .i64 xn, .int .i64 64] w' fun e w'' => e = .returned (.int .i64 (pickP xn 64)) ∧ Below w'.heap.size w' w'') := hid (fun w' => pick_b xn 64 w' (by omega) (by omega) bn)
                              have hr1 : pickP (xo.tdiv 3) 3 < 3 := pickP_lt _ _ (by omega)
                              have hr2 : pickP xn 64 < 64 := pickP_lt _ _ (by omega)
                              generalize pickP (xo.tdiv 3) 3 = r1 at *
                              generalize pickP xn 64 = r2 at *
                              have HI := hid (fun w' h => itoa_b ((r2 : Int)) w' (by omega) (by omega) h)
                              have HQ : Hid ((⟨(Lib.itoa ((r2 : Int))).toArray⟩ : ByteArray).data.toList = Lib.itoa ((r2 : Int))) := hid rfl
                              have hqs := itoa_sz ((r2 : Int)) (by omega) (by omega)
                              generalize (⟨(Lib.itoa ((r2 : Int))).toArray⟩ : ByteArray) = qn at HI HQ hqs
                              have c1 := cell_regrown (HT.out.sh.2.2 r1 _ (names_at hk))
                              have HO := hid (opT_at k (Pn.sh_kind k hkm).2.1)
                              generalize (⟨(Pn.row k).name.toArray⟩ : ByteArray) = nm at c1 HO
                              have hzn := HO.out.1
                              have z1 := cell_regrown (HC.out.2.2 1 _ rfl)
                              have z5 := cell_regrown (HC.out.2.2 5 _ rfl)
                              have hr1i : (r1 : Int) < 3 := by omega
                              have wn : IntKind.i64.wrap ((r2 : Int)) = (r2 : Int) := IntWalk.i64_in _ (by omega)
                              have u1 : ¬ (9223372036854775807 : Int) < s2.size + nm.size := by omega
                              have u2 : ¬ 9223372036854775807 < s2.size + nm.size := by omega
                              have u3 : ¬ (9223372036854775807 : Int) < s2.size + nm.size + 1 := by omega
                              have u4 : ¬ 9223372036854775807 < s2.size + nm.size + 1 := by omega
                              have u5 : ¬ (9223372036854775807 : Int) < s2.size + nm.size + 1 + sa.size := by omega
                              have u6 : ¬ 9223372036854775807 < s2.size + nm.size + 1 + sa.size := by omega
                              have u7 : ¬ (9223372036854775807 : Int) < s2.size + nm.size + 1 + sa.size + 2 := by omega
                              have u8 : ¬ 9223372036854775807 < s2.size + nm.size + 1 + sa.size + 2 := by omega
                              have u9 : ¬ (9223372036854775807 : Int) < s2.size + nm.size + 1 + sa.size + 2 + sb.size := by omega
                              have u10 : ¬ 9223372036854775807 < s2.size + nm.size + 1 + sa.size + 2 + sb.size := by omega
                              have u11 : ¬ (9223372036854775807 : Int) < s2.size + nm.size + 1 + sa.size + 2 + sb.size + 2 := by omega
                              have u12 : ¬ 9223372036854775807 < s2.size + nm.size + 1 + sa.size + 2 + sb.size + 2 := by omega
                              have u13 : ¬ (9223372036854775807 : Int) < s2.size + nm.size + 1 + sa.size + 2 + sb.size + 2 + qn.size := by omega
                              have u14 : ¬ 9223372036854775807 < s2.size + nm.size + 1 + sa.size + 2 + sb.size + 2 + qn.size := by omega
                              go_wp2_with fail
                              refine wp_region_quiet_below (by kernel_rfl) (by kernel_rfl) ?_
                              repeat (quiet_step (first
                                | (go_at_call 26; first | with_reducible exact Calls.regrown_of (HP1.out _) | with_reducible exact Calls.regrown_of (HP2.out _))
                                | (go_at_call 43; exact Calls.regrown_of (HI.out _ (HE.out.below (HT.out.next (below_regrown _ _ _)).b HE.out.1)))))
                              refine wpQuiet_nil ?_
                              intro _ hw'
                              obtain ⟨⟨dq, osq⟩, hw''⟩ := hw'
                              subst hw''
                              have HT := hid (HT.out.next (below_regrown _ dq osq))
                              go_wp2_with fail
                              go_meet
                              case rel =>
                                refine ⟨⟨_, ⟨3, ⟨(k : Int) + 1, 5 + ra, R, 0, (r2 : Int)⟩, 0⟩, rfl, Pn.shS_ok N hkm hRA hR (by omega) (by omega), ?_, hid ?_⟩, HT⟩
                                · simp only [ByteArray.size_append]; have e2 : (⟨#[32]⟩ : ByteArray).size = 1 := rfl; have e3 : (⟨#[44, 32]⟩ : ByteArray).size = 2 := rfl; omega
                                · rw [Pn.immS_text (.inr (Pn.sh_kind k hkm).2.2), ← HO.out.2, ← HA.out.2, ← HBT.out.2, ← HQ.out]; simp
                          · have b40 : ((r4 : Int) == 0) = false := by simpa using h40
                            clear h40
                            as_aux_lemma =>
                              go_wp2_with fail
                              refine (pick_any (xo.tdiv 3) 26 _ (by omega) (by omega) bq).mono ?_
                              rintro e w11 ⟨⟨ro, rfl, hro⟩, rfl⟩
                              obtain ⟨k, hk, hkm⟩ := at_mem (O := rsO) (r := ro) hro
                              have c1 := HT.out.rs.2.2 ro _ (names_at hk)
                              have hroi : (ro : Int) < 26 := by omega
                              have HO := hid (opT_at k (Pn.rs_kind k hkm).2.1)
                              generalize (⟨(Pn.row k).name.toArray⟩ : ByteArray) = nm at c1 HO
                              have hzn := HO.out.1
                              have u1 : ¬ (9223372036854775807 : Int) < s2.size + nm.size := by omega
                              have u2 : ¬ 9223372036854775807 < s2.size + nm.size := by omega
                              have u3 : ¬ (9223372036854775807 : Int) < s2.size + nm.size + 1 := by omega
                              have u4 : ¬ 9223372036854775807 < s2.size + nm.size + 1 := by omega
                              have u5 : ¬ (9223372036854775807 : Int) < s2.size + nm.size + 1 + sa.size := by omega
                              have u6 : ¬ 9223372036854775807 < s2.size + nm.size + 1 + sa.size := by omega
                              have u7 : ¬ (9223372036854775807 : Int) < s2.size + nm.size + 1 + sa.size + 2 := by omega
                              have u8 : ¬ 9223372036854775807 < s2.size + nm.size + 1 + sa.size + 2 := by omega
                              have u9 : ¬ (9223372036854775807 : Int) < s2.size + nm.size + 1 + sa.size + 2 + sb.size := by omega
                              have u10 : ¬ 9223372036854775807 < s2.size + nm.size + 1 + sa.size + 2 + sb.size := by omega
                              have u11 : ¬ (9223372036854775807 : Int) < s2.size + nm.size + 1 + sa.size + 2 + sb.size + 2 := by omega
                              have u12 : ¬ 9223372036854775807 < s2.size + nm.size + 1 + sa.size + 2 + sb.size + 2 := by omega
                              have u13 : ¬ (9223372036854775807 : Int) < s2.size + nm.size + 1 + sa.size + 2 + sb.size + 2 + sc.size := by omega
                              have u14 : ¬ 9223372036854775807 < s2.size + nm.size + 1 + sa.size + 2 + sb.size + 2 + sc.size := by omega
                              go_wp2_with fail
                              go_meet
                              case rel =>
                                refine ⟨⟨_, ⟨3, ⟨(k : Int) + 1, 5 + ra, R, C, 0⟩, 0⟩, rfl, Pn.rsS_ok N hkm hRA hR hC, ?_, hid ?_⟩, HT⟩
                                · simp only [ByteArray.size_append]; have e2 : (⟨#[32]⟩ : ByteArray).size = 1 := rfl; have e3 : (⟨#[44, 32]⟩ : ByteArray).size = 2 := rfl; omega
                                · rw [Pn.regS_text (Pn.rs_kind k hkm).2.2, ← HO.out.2, ← HA.out.2, ← HBT.out.2, ← HCT.out.2]; simp
                        · have by1 : ((ry : Int) == 1) = false := by
                            have : ¬ (ry : Int) = 1 := by omega
                            simpa using this
                          clear hy1
                          as_aux_lemma =>
                            go_wp2_with fail
                            refine (pick_any (xo.tdiv 3) 26 _ (by omega) (by omega) bq).mono ?_
                            rintro e w11 ⟨⟨ro, rfl, hro⟩, rfl⟩
                            obtain ⟨k, hk, hkm⟩ := at_mem (O := rsO) (r := ro) hro
                            have c1 := HT.out.rs.2.2 ro _ (names_at hk)
                            have hroi : (ro : Int) < 26 := by omega
                            have HO := hid (opT_at k (Pn.rs_kind k hkm).2.1)
                            generalize (⟨(Pn.row k).name.toArray⟩ : ByteArray) = nm at c1 HO
                            have hzn := HO.out.1
                            have u1 : ¬ (9223372036854775807 : Int) < s2.size + nm.size := by omega
                            have u2 : ¬ 9223372036854775807 < s2.size + nm.size := by omega
                            have u3 : ¬ (9223372036854775807 : Int) < s2.size + nm.size + 1 := by omega
                            have u4 : ¬ 9223372036854775807 < s2.size + nm.size + 1 := by omega
                            have u5 : ¬ (9223372036854775807 : Int) < s2.size + nm.size + 1 + sa.size := by omega
                            have u6 : ¬ 9223372036854775807 < s2.size + nm.size + 1 + sa.size := by omega
                            have u7 : ¬ (9223372036854775807 : Int) < s2.size + nm.size + 1 + sa.size + 2 := by omega
                            have u8 : ¬ 9223372036854775807 < s2.size + nm.size + 1 + sa.size + 2 := by omega
                            have u9 : ¬ (9223372036854775807 : Int) < s2.size + nm.size + 1 + sa.size + 2 + sb.size := by omega
                            have u10 : ¬ 9223372036854775807 < s2.size + nm.size + 1 + sa.size + 2 + sb.size := by omega
                            have u11 : ¬ (9223372036854775807 : Int) < s2.size + nm.size + 1 + sa.size + 2 + sb.size + 2 := by omega
                            have u12 : ¬ 9223372036854775807 < s2.size + nm.size + 1 + sa.size + 2 + sb.size + 2 := by omega
                            have u13 : ¬ (9223372036854775807 : Int) < s2.size + nm.size + 1 + sa.size + 2 + sb.size + 2 + sc.size := by omega
                            have u14 : ¬ 9223372036854775807 < s2.size + nm.size + 1 + sa.size + 2 + sb.size + 2 + sc.size := by omega
                            go_wp2_with fail
                            go_meet
                            case rel =>
                              refine ⟨⟨_, ⟨3, ⟨(k : Int) + 1, 5 + ra, R, C, 0⟩, 0⟩, rfl, Pn.rsS_ok N hkm hRA hR hC, ?_, hid ?_⟩, HT⟩
                              · simp only [ByteArray.size_append]; have e2 : (⟨#[32]⟩ : ByteArray).size = 1 := rfl; have e3 : (⟨#[44, 32]⟩ : ByteArray).size = 2 := rfl; omega
                              · rw [Pn.regS_text (Pn.rs_kind k hkm).2.2, ← HO.out.2, ← HA.out.2, ← HBT.out.2, ← HCT.out.2]; simp
            case rest =>
              as_aux_lemma =>
                obtain ⟨⟨s3, x, rfl, hxo, h3, HS3⟩, HT3⟩ := hcut
                have u1 : ¬ (9223372036854775807 : Int) < s3.size + 1 := by omega
                have u2 : ¬ 9223372036854775807 < s3.size + 1 := by omega
                go_wp2_with fail
                go_roundg (N - (ps.length + 1))
                case measure => omega
                case rel =>
                  refine ⟨ps ++ [x], _, rfl, by simp, by rw [List.length_append, List.length_singleton]; omega, ?_, ?_, hid ?_, HT3.out⟩
                  · intro y hy
                    rcases List.mem_append.1 hy with h | h
                    · exact hok y h
                    · rw [List.mem_singleton] at h; rw [h]; exact hxo
                  · rw [ByteArray.size_append, List.length_append]; have e2 : (⟨#[10]⟩ : ByteArray).size = 1 := rfl; simp only [List.length_singleton]; omega
                  · rw [Pn.bodyT_snoc, ← List.append_assoc, ← HS.out]
                    simp [HS3.out, HS2.out.2]
      · as_aux_lemma =>
        have hlti : ¬ (ps.length : Int) < N := by omega
        go_wp2_with fail
        refine (itoa_is N _ (by omega) (by omega) (HE.out.below hT.b HE.out.1)).mono ?_
        rintro e w4 ⟨qk, rfl, hqk, HQ, hB2⟩
        have HT := hid (hT.next hB2)
        have HNK := hid (nmT_new hqk HQ.out)
        have HSZ : Hid (s.size + 1 + qk.size + 8 < 100000) := hid (by omega)
        have u1 : ¬ (9223372036854775807 : Int) < s.size + 1 + qk.size := by omega
        have u2 : ¬ 9223372036854775807 < s.size + 1 + qk.size := by omega
        have u3 : ¬ (9223372036854775807 : Int) < s.size + 1 + qk.size + 8 := by omega
        have u4 : ¬ 9223372036854775807 < s.size + 1 + qk.size + 8 := by omega
        clear hB2 HQ
        go_wp2_with fail
        go_ret
        have hNe : N = ps.length := by omega
        subst hNe
        refine ⟨ps, _, rfl, by omega, hok, ?_, HT.out.b⟩
        unfold Pn.progT
        rw [← HS.out, ← HNK.out.2]
        simp
end Go.Proofs.YtbmcofdodfcnnaaGreatDoor
