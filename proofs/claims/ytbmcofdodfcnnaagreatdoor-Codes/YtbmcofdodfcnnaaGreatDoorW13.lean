import Derived.Test.YtbmcofdodfcnnaaGreatDoorW8b
import Derived.Test.YtbmcofdodfcnnaaGreatDoorPD
namespace Go.Proofs.YtbmcofdodfcnnaaGreatDoor
open Go.RowKit

set_option maxHeartbeats 1000000 in
theorem count_is (s : ByteArray) (c : Int) (w : World) (hs : s.size ≤ 2000) :
    Calls Tryz.prog 163 #[.string s, .int .u8 c] w fun e w' => e = .returned (.int .i64 (Pn.cnt s c s.size)) ∧ w' = w := by
  have hBq := Pn.B_eq s
  go_enter Tryz.func163, Tryz.ntmps163
  go_wp2_with fail
  go_loop [5, 6] (fun n i => ∃ k : Nat, k ≤ s.size ∧ i = .int .i64 k ∧ n = .int .i64 (Pn.cnt s c k)) (fun _ i => s.size - (intOf i).toNat)
  case atStart => exact ⟨0, by omega, rfl, rfl⟩
  case round =>
    obtain ⟨k, hk, rfl, rfl⟩ := hrel
    have hb := Pn.cnt_bd s c k
    by_cases hlt : k < s.size
    · by_cases hc : (((Pn.B s k).toNat : Int) == c) = true
      · have HS := hide (Pn.cnt_yes hc)
        generalize hN : Pn.cnt s c k = N at *
        have HN := hide hN
        clear hN
        go_wp2_with fail
        go_round
        case rel => exact ⟨k + 1, by omega, by go_num, by rw [unhide HS]⟩
        case measure => simp [intOf]; omega
      · have hc' : (((Pn.B s k).toNat : Int) == c) = false := by simpa using hc
        clear hc
        have HS := hide (Pn.cnt_no hc')
        generalize hN : Pn.cnt s c k = N at *
        have HN := hide hN
        clear hN
        go_wp2_with fail
        go_round
        case rel => exact ⟨k + 1, by omega, by go_num, by rw [unhide HS]⟩
        case measure => simp [intOf]; omega
    · have hke : k = s.size := by omega
      go_wp2_with fail
      go_ret
      exact ⟨rfl, rfl⟩

end Go.Proofs.YtbmcofdodfcnnaaGreatDoor
