import Derived.Test.YtbmcofdodfcnnaaGreatDoorXH
import Derived.Test.YtbmcofdodfcnnaaGreatDoorSD
import Derived.Test.YtbmcofdodfcnnaaGreatDoorGSC
namespace Go.Proofs.YtbmcofdodfcnnaaGreatDoor
open Go.RowKit
theorem shrunk_nil (a0 : Option Addr) (cap : Nat) (short : Bool) (w : World) (hE : Env w) :
    Calls Tryz.prog 8 #[.slice a0 (0 : Nat) cap, .bool short] w fun e w' => e = .returned (.bool true) ∧ Below w.heap.size w w' := by
  refine shrunk_walk a0 0 cap short w hE fun w1 hB => ?_
  refine (program_nil a0 cap w1 (hE.below hB hE.1)).mono ?_
  rintro e w2 ⟨ps, s, rfl, h1, h2, h3, h4⟩
  exact ⟨s, rfl, shr_prog h2 h1 short h3, h4⟩
theorem shrunk_is (l : List RawL) (B o cap : Nat) (short : Bool) (w : World) (hE : Env w) (hl : ∀ x ∈ l, RawOk x) (hll : l.length < 10000000000000) (hB : B < w.heap.size)
    (hL : ∀ k x, l[k]? = some x → ∀ q u, (rawC x)[q]? = some u → w.cell? ⟨B, o + k * 6 + q, none⟩ = some u) :
    Calls Tryz.prog 8 #[.slice (some ⟨B, o, none⟩) l.length cap, .bool short] w fun e w' => e = .returned (.bool true) ∧ Below w.heap.size w w' := by
  refine shrunk_walk (some ⟨B, o, none⟩) l.length cap short w hE fun w1 hB1 => ?_
  refine (program_is l B o cap w1 (hE.below hB1 hE.1) hl hll (Nat.lt_of_lt_of_le hB hB1.size) (fun k x hx q u hu => (hB1.cell (p := ⟨B, o + k * 6 + q, none⟩) hB).trans (hL k x hx q u hu))).mono ?_
  rintro e w2 ⟨ps, s, rfl, h1, h2, h3, h4⟩
  exact ⟨s, rfl, shr_prog h2 h1 short h3, h4⟩
end Go.Proofs.YtbmcofdodfcnnaaGreatDoor
