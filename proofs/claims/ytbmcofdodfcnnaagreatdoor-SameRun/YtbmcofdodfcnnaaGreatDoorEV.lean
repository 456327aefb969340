import Derived.Test.YtbmcofdodfcnnaaGreatDoorGY
import Derived.Test.YtbmcofdodfcnnaaGreatDoorRows
import Derived.MakeChecks
import Derived.ProofKit
import Derived.OpenShut
import Derived.Deep.Slices
import Derived.Lib.LaidTab
import Derived.Shelf.Vars
import Derived.SizedLaws
namespace Go.Proofs.YtbmcofdodfcnnaaGreatDoor
open Go.ChangeShapes Go.WideShapes Go.ChangeAt Go.RowKit
theorem iface_of {H : Type} {enc : TypeId × Value → H} {P : Program} {w : World} {base : Nat} {sp : Nat → Bool} {fuel : Nat} {t : TypeId} {ms : Array (String × TypeId)} {cs : List Value} {name : String} {d : DataW H} {p : List MemPlace}
    (ht : P.underlying t = some (.interface ms)) (h : DataW.trod enc P w base sp false fuel t cs = some (.iface name d, p)) : ∃ u v, cs = [.iface u v] := by
  cases fuel with
  | zero => simp [DataW.trod] at h
  | succ n =>
    unfold DataW.trod at h
    rw [ht] at h
    cases cs with
    | nil => simp at h
    | cons c cs =>
      cases cs with
      | cons c2 cs => cases c <;> simp at h
      | nil =>
        cases c with
        | iface u v => exact ⟨u, v, rfl⟩
        | _ => simp at h
theorem cells3 : Tryz.prog.cellsOf 3 = 1 := by kernel_rfl
theorem uncons {n : Nat} {l : List Value} (h : l.length = n + 1) : ∃ c r, l = c :: r ∧ r.length = n := by
  cases l with
  | nil => simp at h
  | cons c r => exact ⟨c, r, rfl, by simpa using h⟩
section
variable {H : Type} {enc : TypeId × Value → H} {w : World} {base : Nat} {sp : Nat → Bool} {hd : Bool}
end
theorem own : ownKnob Tryz.prog.godebug = none := by kernel_rfl
theorem laidOut : laidOutB Tryz.prog = true := by kernel_rfl
theorem gPow : Tryz.prog.globalNamed "internal/strconv.uint64pow10" = some 1 := by kernel_rfl
theorem gSyn : Tryz.prog.globalNamed "strconv.ErrSyntax" = some 6 := by kernel_rfl
theorem gRng : Tryz.prog.globalNamed "strconv.ErrRange" = some 7 := by kernel_rfl
theorem tPow : (Tryz.prog.globals[1]?).map (·.type) = some 288 := by kernel_rfl
theorem tSyn : (Tryz.prog.globals[6]?).map (·.type) = some 141 := by kernel_rfl
theorem tRng : (Tryz.prog.globals[7]?).map (·.type) = some 141 := by kernel_rfl
theorem cellsU64 : Tryz.prog.cellsOf 62 = 1 := by kernel_rfl
theorem cellsPow : Tryz.prog.cellsOf 288 = 20 := by kernel_rfl
theorem cell_of_iface {w : World} {n : String} {g : Nat} {cs : Array Value} {u : TypeId} {v : Value} (hg : Tryz.prog.globalNamed n = some g) (hv : w.var? Tryz.prog n = some cs) (e : cs.toList = [.iface u v]) : w.cell? ⟨g, 0, none⟩ = some (.iface u v) := by
  have h := World.var?_cell hg hv 0
  obtain ⟨l⟩ := cs
  have e2 : l = [.iface u v] := e
  subst e2
  simpa using h
set_option maxRecDepth 100000 in
theorem env_of {W : World} (hL : laidMetH Tryz.prog Rows.codesRow.laid W) (hS : W.ShapedOpen Tryz.prog) : Env W := by
  rw [MakeChecks.laidMetH_plain _ _ _ (by kernel_rfl)] at hL
  obtain ⟨ps, hv, _⟩ := hL
  obtain ⟨_, _, _, _, _, _, _, _, _, _, hv, _⟩ := hv
  obtain ⟨_, _, _, _, _, _, _, _, _, _, hv, _⟩ := hv
  obtain ⟨g2, t2, cs2, f2, p2, q2, hg2, ht2, hv2, hd2, hv, _⟩ := hv
  obtain ⟨_, _, _, _, _, _, _, _, _, _, hv, _⟩ := hv
  obtain ⟨g4, t4, cs4, f4, p4, q4, hg4, ht4, hv4, hd4, hv, _⟩ := hv
  obtain ⟨g5, t5, cs5, f5, p5, q5, hg5, ht5, hv5, hd5, _, _⟩ := hv
  obtain rfl := Option.some.inj (gPow.symm.trans hg2)
  obtain rfl := Option.some.inj (gRng.symm.trans hg4)
  obtain rfl := Option.some.inj (gSyn.symm.trans hg5)
  obtain rfl := Option.some.inj (tPow.symm.trans ht2)
  obtain rfl := Option.some.inj (tRng.symm.trans ht4)
  obtain rfl := Option.some.inj (tSyn.symm.trans ht5)
  have hd2' : DataW.trod (fun _ => ()) Tryz.prog W 0 (fun _ => true) false f2 288 cs2.toList = some (Lib.tabData .u64 Lib.pow10Tab, p2) := hd2
  have e2 := Lib.cells_of_tab Tryz.underlying288 Tryz.underlying62 cellsU64 cellsPow hd2'
  obtain ⟨u4, v4, e4⟩ := iface_of Tryz.underlying141 hd4
  obtain ⟨u5, v5, e5⟩ := iface_of Tryz.underlying141 hd5
  have c4 := cell_of_iface gRng hv4 e4
  have c5 := cell_of_iface gSyn hv5 e5
  refine ⟨?_, ?_, ?_, ⟨u5, v5, c5⟩, ⟨u4, v4, c4⟩⟩
  · have h7 : 7 < W.heap.size := World.block_lt_of_cell? W _ c4
    omega
  · show W.var? Tryz.prog _ = _
    rw [hv2, ← e2]
  · exact cell_of_shapedOpen_int (t := 3) (zero := #[.int .i64 0]) hS (of_decide_eq_true (by kernel_rfl)) (by kernel_rfl) rfl (by kernel_rfl) (by kernel_rfl) Tryz.underlying3
end Go.Proofs.YtbmcofdodfcnnaaGreatDoor
