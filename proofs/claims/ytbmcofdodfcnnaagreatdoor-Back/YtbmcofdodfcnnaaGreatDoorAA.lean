import Derived.Test.YtbmcofdodfcnnaaGreatDoorGVC
import Derived.Test.YtbmcofdodfcnnaaGreatDoorGFC
namespace Pn
/-- how many bytes a statement of data has, by its name -/
def dsz (l : List UInt8) : Int := if l = [46, 98, 121, 116, 101] then 1 else if l = [46, 104, 97, 108, 102] then 2 else if l = [46, 119, 111, 114, 100] then 4 else 0
end Pn
namespace Go.Proofs.YtbmcofdodfcnnaaGreatDoor
open Go.RowKit
theorem sizeOfData_is (nm : ByteArray) (w : World) : Calls Tryz.prog 259 #[.string nm] w fun e w' => e = .returned (.int .i64 (Pn.dsz nm.data.toList)) ∧ w' = w := by
  have ht : nm.toList = nm.data.toList := ByteArray.toList_eq nm
  by_cases h1 : nm.data.toList = [46, 98, 121, 116, 101]
  · have HV : Hid (Pn.dsz nm.data.toList = 1) := hid (by unfold Pn.dsz; rw [if_pos h1])
    have q1 : (nm.toList == [46, 98, 121, 116, 101]) = true := by rw [ht]; simpa using h1
    clear ht h1
    go_enter Tryz.func259, Tryz.ntmps259
    go_wp2_with fail
    go_ret
    exact ⟨by rw [HV.out]; rfl, rfl⟩
  · have q1 : (nm.toList == [46, 98, 121, 116, 101]) = false := by rw [ht]; simpa using h1
    by_cases h2 : nm.data.toList = [46, 104, 97, 108, 102]
    · have HV : Hid (Pn.dsz nm.data.toList = 2) := hid (by unfold Pn.dsz; rw [if_neg h1, if_pos h2])
      have q2 : (nm.toList == [46, 104, 97, 108, 102]) = true := by rw [ht]; simpa using h2
      clear ht h1 h2
      go_enter Tryz.func259, Tryz.ntmps259
      go_wp2_with fail
      go_ret
      exact ⟨by rw [HV.out]; rfl, rfl⟩
    · have q2 : (nm.toList == [46, 104, 97, 108, 102]) = false := by rw [ht]; simpa using h2
      by_cases h3 : nm.data.toList = [46, 119, 111, 114, 100]
      · have HV : Hid (Pn.dsz nm.data.toList = 4) := hid (by unfold Pn.dsz; rw [if_neg h1, if_neg h2, if_pos h3])
        have q3 : (nm.toList == [46, 119, 111, 114, 100]) = true := by rw [ht]; simpa using h3
        clear ht h1 h2 h3
        go_enter Tryz.func259, Tryz.ntmps259
        go_wp2_with fail
        go_ret
        exact ⟨by rw [HV.out]; rfl, rfl⟩
      · have HV : Hid (Pn.dsz nm.data.toList = 0) := hid (by unfold Pn.dsz; rw [if_neg h1, if_neg h2, if_neg h3])
        have q3 : (nm.toList == [46, 119, 111, 114, 100]) = false := by rw [ht]; simpa using h3
        clear ht h1 h2 h3
        go_enter Tryz.func259, Tryz.ntmps259
        go_wp2_with fail
        go_ret
        exact ⟨by rw [HV.out]; rfl, rfl⟩
/-- a statement that is an instruction by its own name, and right -/
theorem readStatement_ins (nm : ByteArray) (k : Nat) (l : List Pn.Pc) (ao : Option Addr) (cp : Nat) (i : Pn.Ins) (tg : List UInt8) (w : World) (hk : k < 64) (hf : (List.range 64).find? (Pn.byName nm) = some k) (hE : Env w) (hl : PcsAt ao l w.heap.size w)
    (hr : Pn.rin k l = (Pn.partCells i tg, 0)) (hc : Lib.hasPrefix nm.data.toList [99, 46] = false) (hd : Pn.dsz nm.data.toList = 0) (hli : (nm.toList == [108, 105]) = false) :
    Calls Tryz.prog 227 #[.string nm, .slice ao l.length cp] w fun e w' => ∃ g, e = .returned (.tuple #[.slice (some ⟨g, 0, none⟩) 1 1, .int .i64 0]) ∧ w.heap.size ≤ g ∧ CellsAt g (Pn.partCells i tg) w' ∧ Below w.heap.size w w' := by
  have HR := hid (readInstruction_is nm k l ao cp w hk hf hE hl)
  rw [hr] at HR
  clear hE hl hr hf
  go_enter Tryz.func227, Tryz.ntmps227
  go_wp2_with fail
  refine (Tryz.strings_CutPrefix nm ⟨#[99, 46]⟩ _).mono ?_
  rintro e w1 ⟨rfl, rfl⟩
  have hc' : Lib.hasPrefix nm.data.toList (ByteArray.mk #[99, 46]).data.toList = false := hc
  rw [hc']
  go_wp2_with fail
  refine (sizeOfData_is nm _).mono ?_
  rintro e w1 ⟨rfl, rfl⟩
  rw [hd]
  go_wp2_with fail
  refine HR.out.mono ?_
  rintro e w2 ⟨rfl, hB2⟩
  have hsz := hB2.size
  have HB2 := hid hB2
  clear hB2
  unfold Pn.partCells
  go_wp2_with fail
  go_ret2
  refine ⟨w2.heap.size + 1, rfl, by omega, ?_, (HB2.out.alloc hsz _).alloc (by rw [World.size_alloc]; omega) _⟩
  have := CellsAt.new (w2.alloc (.cells (Pn.partCells i tg).toArray 193)) (Pn.partCells i tg) 193
  rw [World.size_alloc] at this
  exact this
end Go.Proofs.YtbmcofdodfcnnaaGreatDoor
