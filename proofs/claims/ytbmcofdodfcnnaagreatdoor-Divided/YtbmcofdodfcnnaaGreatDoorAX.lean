import Derived.Test.YtbmcofdodfcnnaaGreatDoorFJ2
import Derived.Test.YtbmcofdodfcnnaaGreatDoorAW
namespace Pn
theorem fok2_all : ∀ k, k < 32 → Fok2 (fm k) := by
  have h1 : ∀ k, k < 32 → 0 ≤ (fm k).rd ∧ (fm k).rd ≤ 200 := by decide
  have h2 : ∀ k, k < 32 → 0 ≤ (fm k).rs1 ∧ (fm k).rs1 ≤ 200 := by decide
  have h3 : ∀ k, k < 32 → 0 ≤ (fm k).rs2 ∧ (fm k).rs2 ≤ 200 := by decide
  have h4 : ∀ k, k < 32 → (fm k).hold < 8 := by decide
  exact fun k hk => { fok_all k hk with r1 := h1 k hk, r2 := h2 k hk, r3 := h3 k hk, h8 := h4 k hk }
end Pn
namespace Go.Proofs.YtbmcofdodfcnnaaGreatDoor
open Go.RowKit
theorem reads_all : ReadsAll := fun k hk n w => read_is' (Pn.fm k) n w (Pn.fok2_all k hk)
theorem awake_is (w : World) (hE : Env w) :
    Calls Tryz.prog 13 #[] w fun e w' => e = .returned (.bool true) ∧ Below w.heap.size w w' := awake_if reads_all w hE
end Go.Proofs.YtbmcofdodfcnnaaGreatDoor
