import Derived.Test.YtbmcofdodfcnnaaGreatDoorW8b
namespace Go.Proofs.YtbmcofdodfcnnaaGreatDoor
open Go.RowKit

set_option maxHeartbeats 4000000 in
theorem reg_is (kd N : Int) (S : ByteArray) (bl : Bool) (w : World) :
    Calls Tryz.prog 241 #[.agg #[.int .u8 kd, .string S, .int .i64 N, .bool bl]] w fun e w' => e = .returned (.int .i64 (Pn.regV kd S)) ∧ Below w.heap.size w w' := by
  have hBq := Pn.B_eq S
  by_cases hk : (kd != 119) = true
  · go_enter Tryz.func241, Tryz.ntmps241
    go_wp2_with fail
    go_ret
    exact ⟨ret_int (Pn.regV_no (fun h => by simp [h.1] at hk)).symm, (Below.refl _ _).alloc (Nat.le_refl _) _⟩
  · have hk' : (kd != 119) = false := by simpa using hk
    clear hk
    by_cases h2 : (S.size : Int) < 2
    · go_enter Tryz.func241, Tryz.ntmps241
      go_wp2_with fail
      go_ret
      exact ⟨ret_int (Pn.regV_no (fun h => by omega)).symm, (Below.refl _ _).alloc (Nat.le_refl _) _⟩
    · by_cases h3 : (3 : Int) < S.size
      · go_enter Tryz.func241, Tryz.ntmps241
        go_wp2_with fail
        go_ret
        exact ⟨ret_int (Pn.regV_no (fun h => by omega)).symm, (Below.refl _ _).alloc (Nat.le_refl _) _⟩
      · have hz : 0 < S.size := by omega
        have hz' : (0 : Int) < S.size := by omega
        by_cases hx : (((Pn.B S 0).toNat : Int) != 120) = true
        · go_enter Tryz.func241, Tryz.ntmps241
          go_wp2_with fail
          go_ret
          exact ⟨ret_int (Pn.regV_no (fun h => by simp [h.2.2.2.1] at hx)).symm, (Below.refl _ _).alloc (Nat.le_refl _) _⟩
        · have hx' : (((Pn.B S 0).toNat : Int) != 120) = false := by simpa using hx
          clear hx
          go_enter Tryz.func241, Tryz.ntmps241
          go_wp2_with fail
          go_loopw [3, 4] (fun n i wx => ∃ k : Nat, 1 ≤ k ∧ k ≤ S.size ∧ i = .int .i64 k ∧ n = .int .i64 (Pn.numAt S 1 k) ∧ Hid (Pn.digs1 S k = true) ∧ w.alloc (.cells #[.int .u8 kd, .string S, .int .i64 N, .bool bl] 268) = wx) (fun _ i _ => S.size - (intOf i).toNat)
          case atStart => exact ⟨1, by omega, by omega, rfl, by rw [Pn.numAt_self], Pn.digs1_one S, rfl⟩
          case round =>
            obtain ⟨k, hk1, hk2, rfl, rfl, hd, hw⟩ := hrel
            subst hw
            have nb := Pn.numAt_bd10 S 1 k hk1 hk2 (by omega) (Pn.digs1_all hd.out)
            by_cases hlt : k < S.size
            · have hlt' : (k : Int) < S.size := by omega
              have cb : ((Pn.B S k).toNat : Int) ≤ 255 := by have := (Pn.B S k).toNat_lt; omega
              by_cases hdk : Pn.digitB (Pn.B S k).toNat = true
              · have HS := hide (Pn.numAt_succ S 1 k hk1 hlt)
                generalize hN : Pn.numAt S 1 k = M at *
                have HN := hide hN
                clear hN
                go_wp2_with (go_at_call 208; refine (digit_is _ _).mono ?_; rintro e w' ⟨rfl, rfl⟩)
                go_roundw
                case rel => exact ⟨k + 1, by omega, by omega, by go_num, by rw [unhide HS], Pn.digs1_succ hd.out hdk, by first | rfl | trivial⟩
                case measure => simp [intOf]; omega
              · have hdk' : Pn.digitB (Pn.B S k).toNat = false := by simpa using hdk
                clear hdk
                generalize hN : Pn.numAt S 1 k = M at *
                have HN := hide hN
                clear hN
                go_wp2_with (go_at_call 208; refine (digit_is _ _).mono ?_; rintro e w' ⟨rfl, rfl⟩)
                go_ret
                exact ⟨ret_int (Pn.regV_no (fun h => Pn.digs1_no hk1 hlt hdk' h.2.2.2.2.1)).symm, (Below.refl _ _).alloc (Nat.le_refl _) _⟩
            · have hke : k = S.size := by omega
              subst hke
              have hlt' : ¬ (S.size : Int) < S.size := by omega
              have h1s : (1 : Int) < S.size := by omega
              have h1n : 1 < S.size := by omega
              generalize hN : Pn.numAt S 1 S.size = M at *
              have HN := hide hN
              clear hN
              by_cases h31 : 31 < M
              · go_wp2_with fail
                go_ret
                exact ⟨ret_int (Pn.regV_no (fun h => by have := h.2.2.2.2.2.1; rw [unhide HN] at this; omega)).symm, (Below.refl _ _).alloc (Nat.le_refl _) _⟩
              · have h31' : ¬ 31 < M := h31
                by_cases hs3 : ((S.size : Int) == 3) = true
                · by_cases h48 : (((Pn.B S 1).toNat : Int) == 48) = true
                  · go_wp2_with fail
                    go_ret
                    exact ⟨ret_int (Pn.regV_no (fun h => h.2.2.2.2.2.2 ⟨by simp at hs3; omega, by simp at h48; omega⟩)).symm, (Below.refl _ _).alloc (Nat.le_refl _) _⟩
                  · have h48' : (((Pn.B S 1).toNat : Int) == 48) = false := by simpa using h48
                    clear h48
                    go_wp2_with fail
                    go_ret
                    refine ⟨ret_int ?_, (Below.refl _ _).alloc (Nat.le_refl _) _⟩
                    unfold Pn.regV
                    rw [if_pos ⟨by simpa using hk', by omega, by omega, by simp at hx'; omega, hd.out, by rw [unhide HN]; omega, fun h => by simp [h.2] at h48'⟩, unhide HN]
                · have hs3' : ((S.size : Int) == 3) = false := by simpa using hs3
                  clear hs3
                  go_wp2_with fail
                  go_ret
                  refine ⟨ret_int ?_, (Below.refl _ _).alloc (Nat.le_refl _) _⟩
                  unfold Pn.regV
                  rw [if_pos ⟨by simpa using hk', by omega, by omega, by simp at hx'; omega, hd.out, by rw [unhide HN]; omega, fun h => by simp [h.1] at hs3'⟩, unhide HN]

end Go.Proofs.YtbmcofdodfcnnaaGreatDoor
