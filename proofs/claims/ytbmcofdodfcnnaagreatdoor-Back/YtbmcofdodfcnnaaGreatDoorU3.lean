import Derived.Test.YtbmcofdodfcnnaaGreatDoorGU1
import Derived.Deep.RegionHeld3
import Derived.Deep.QuietTactic
import Derived.BigQuiet
import Derived.Laws.BytesArg
namespace Go.Proofs.YtbmcofdodfcnnaaGreatDoor
open Go.RowKit
theorem retI {k : IntKind} {a b : Int} (h : a = b) : Ending.returned (.int k a) = .returned (.int k b) := by rw [h]
/-- the bytes of the memory from a on -/
def byt (mem : List Int) (a n : Nat) : List UInt8 := ((mem.drop a).take n).map fun x => UInt8.ofNat x.toNat
/-- what is read there -/
def rdP (mem : List Int) (a n : Nat) : Int := IntKind.i64.wrap (Pn.numN (byt mem a n))
theorem byt_len {mem : List Int} {a n : Nat} (h : a + n ≤ mem.length) : (byt mem a n).length = n := by simp [byt]; omega
theorem sizeB (w : World) : (Go.sizeOf 5).run Tryz.prog w = .ok 1 w := by
  obtain ⟨i0, hi, hz0, hz1, hz2⟩ := info_parts Tryz.infoByte
  simp [Go.sizeOf, typeInfo, hi, hz1]
theorem sl_lh (b a n : Nat) (w : World) (hn : 0 < n) (ha : a + n ≤ 4096) :
    (Instr.sliceAt 87 (.pointer (some ⟨b, 0, none⟩)) (some (.int .i64 a)) (some (.int .i64 (a + n))) none).run Tryz.prog w = .ok (.slice (some ⟨b, a, none⟩) n (4096 - a)) w := by
  have h1 : (0:Int) ≤ (a : Int) + n := by omega
  have h2 : (a : Int) + n ≤ 4096 := by omega
  have h3 : ((a : Int) + n).toNat = a + n := by omega
  have h4 : ¬ 4096 = a := by omega
  have hq : (Instr.sliceBound (.int .i64 a) (a + n) .sliceB).run Tryz.prog w = .ok a w := by simp [Instr.sliceBound, asIntOf]; intro h; omega
  simp [Instr.sliceAt, Instr.sureAddr, run_underlying Tryz.underlying87, Instr.sliceBounds, run_sliceBound, h1, h2, h3, h4, hq, Addr.add]
  intro h; exact h.symm
theorem sl_l (b a : Nat) (w : World) (ha : a < 4096) :
    (Instr.sliceAt 87 (.pointer (some ⟨b, 0, none⟩)) (some (.int .i64 a)) none none).run Tryz.prog w = .ok (.slice (some ⟨b, a, none⟩) (4096 - a) (4096 - a)) w := by
  have h2 : (a : Int) ≤ 4096 := by omega
  have h4 : ¬ 4096 = a := by omega
  simp [Instr.sliceAt, Instr.sureAddr, run_underlying Tryz.underlying87, Instr.sliceBounds, run_sliceBound, h2, h4, Addr.add]
  intro h; exact h.symm
theorem sl_all (b : Nat) (w : World) :
    (Instr.sliceAt 87 (.pointer (some ⟨b, 0, none⟩)) none none none).run Tryz.prog w = .ok (.slice (some ⟨b, 0, none⟩) 4096 4096) w := by
  simp [Instr.sliceAt, Instr.sureAddr, run_underlying Tryz.underlying87, Instr.sliceBounds, Addr.add]
set_option maxRecDepth 20000 in
theorem read_is (b : Nat) (a n : Nat) (w : World) {T : TypeId} {mem regs : List Int} {pc : Int} (h : IsM T b mem regs pc w) (h0 : 0 < n) (hn : n ≤ 8) (ha : a + n ≤ 4096) :
    Calls Tryz.prog 88 #[.pointer (some ⟨b, 0, none⟩), .int .i64 a, .int .i64 n] w fun e w' => e = .returned (.int .i64 (rdP mem a n)) ∧ w' = w := by
  have hcv : (convert 65 9 (.slice (some ⟨b, a, none⟩) n (4096 - a))).run Tryz.prog w = .ok (.string (strOfNums ((mem.drop a).take n))) w :=
    run_convert_bytes_arg w _ 5 Tryz.underlying65 Tryz.underlying5 b a n _ _ (by simp [h.mlen]; omega) (fun i hi => by rw [h.cellM (a + i) (by omega)]; simp [List.getD, hi]) _ Tryz.underlying9
  have hsl := sl_lh b a n w h0 ha
  have HS : Hid ((strOfNums ((mem.drop a).take n)).data.toList = byt mem a n) := show _ = _ from (by simp [strOfNums, byt])
  have HZ : Hid ((strOfNums ((mem.drop a).take n)).size ≤ 8) := show _ ≤ _ from (by rw [Lib.size_eq, HS.out, byt_len (by rw [h.mlen]; exact ha)]; exact hn)
  generalize strOfNums ((mem.drop a).take n) = q at *
  go_enter Tryz.func88, Tryz.ntmps88
  go_wp2_with (go_at_call 148; refine (number_is _ _ HZ.out).mono ?_; rintro e w' ⟨rfl, rfl⟩)
  go_ret
  exact ⟨retI (by unfold rdP; rw [HS.out, ← wrap64_eq]), rfl⟩
theorem Set_is (b : Nat) (r v : Int) (w : World) {T : TypeId} {mem regs : List Int} {pc : Int} (h : IsM T b mem regs pc w) :
    Calls Tryz.prog 47 #[.pointer (some ⟨b, 0, none⟩), .int .i64 r, .int .i64 v] w fun e w' => e = .returned (.int .i64 (if hasB r = true then 0 else 9)) ∧ w' = (if hasB r = true ∧ r ≠ 0 then w.setCell ⟨b, 4096 + r.toNat, none⟩ (.int .i64 v) else w) := by
  by_cases hh : hasB r = true
  · have hr : 0 ≤ r ∧ r ≤ 31 := by simpa [hasB] using hh
    obtain ⟨k, rfl⟩ := Int.eq_ofNat_of_zero_le hr.1
    by_cases h0 : k = 0
    · subst h0
      go_enter Tryz.func47, Tryz.ntmps47
      go_wp2_with (first | (go_at_call 84; refine (has_is _ _ _).mono ?_; rintro e w' ⟨rfl, rfl⟩) | (go_at_call 85; refine (put_0 _ _ _).mono ?_; rintro e w' ⟨rfl, rfl⟩))
      go_ret
      exact ⟨rfl, by simp⟩
    · go_enter Tryz.func47, Tryz.ntmps47
      go_wp2_with (first | (go_at_call 84; refine (has_is _ _ _).mono ?_; rintro e w' ⟨rfl, rfl⟩) | (go_at_call 85; refine (put_n _ k _ _ h (by omega) (by omega)).mono ?_; rintro e w' ⟨rfl, rfl⟩))
      go_ret
      exact ⟨rfl, rfl⟩
  · have hh' : hasB r = false := by simpa using hh
    go_enter Tryz.func47, Tryz.ntmps47
    go_wp2_with (go_at_call 84; refine (has_is _ _ _).mono ?_; rintro e w' ⟨rfl, rfl⟩)
    go_ret
    exact ⟨rfl, rfl⟩
theorem Get_is (b : Nat) (r : Int) (w : World) {T : TypeId} {mem regs : List Int} {pc : Int} (h : IsM T b mem regs pc w) :
    Calls Tryz.prog 49 #[.pointer (some ⟨b, 0, none⟩), .int .i64 r] w fun e w' => e = .returned (if hasB r = true then .tuple #[.int .i64 (regs.getD r.toNat 0), .int .i64 0] else .tuple #[.int .i64 0, .int .i64 9]) ∧ w' = w := by
  by_cases hh : hasB r = true
  · have hr : 0 ≤ r ∧ r ≤ 31 := by simpa [hasB] using hh
    obtain ⟨k, rfl⟩ := Int.eq_ofNat_of_zero_le hr.1
    have hc := h.cellR k (by omega)
    go_enter Tryz.func49, Tryz.ntmps49
    go_wp2_with (go_at_call 84; refine (has_is _ _ _).mono ?_; rintro e w' ⟨rfl, rfl⟩)
    go_ret2
    exact ⟨rfl, rfl⟩
  · have hh' : hasB r = false := by simpa using hh
    go_enter Tryz.func49, Tryz.ntmps49
    go_wp2_with (go_at_call 84; refine (has_is _ _ _).mono ?_; rintro e w' ⟨rfl, rfl⟩)
    go_ret2
    exact ⟨rfl, rfl⟩
theorem Peek_is (b : Nat) (a : Int) (w : World) {T : TypeId} {mem regs : List Int} {pc : Int} (h : IsM T b mem regs pc w) :
    Calls Tryz.prog 51 #[.pointer (some ⟨b, 0, none⟩), .int .i64 a] w fun e w' => e = .returned (if holdsB a 1 = true then .tuple #[.int .i64 (mem.getD a.toNat 0), .int .i64 0] else .tuple #[.int .i64 0, .int .i64 9]) ∧ w' = w := by
  by_cases hh : holdsB a 1 = true
  · have hr : 0 ≤ a ∧ a ≤ 4095 := by simpa [holdsB] using hh
    obtain ⟨k, rfl⟩ := Int.eq_ofNat_of_zero_le hr.1
    have HV : Hid (rdP mem k 1 = mem.getD k 0) := show _ = _ from (by
      unfold rdP
      have hk : k < mem.length := by rw [h.mlen]; omega
      have hb := h.byte (mem[k]) (List.getElem_mem hk)
      have e1 : byt mem k 1 = [UInt8.ofNat (mem[k]).toNat] := by
        simp [byt, List.take_one, hk]
      rw [e1]
      have e2 : (UInt8.ofNat (mem[k]).toNat).toNat = (mem[k]).toNat := by rw [UInt8.toNat_ofNat']; exact Nat.mod_eq_of_lt (by omega)
      have e3 : mem.getD k 0 = mem[k] := by simp [List.getD, hk]
      simp only [Pn.numN, e2, IntKind.wrap_i64, e3]
      omega)
    go_enter Tryz.func51, Tryz.ntmps51
    go_wp2_with (first | (go_at_call 87; refine (holds_is _ _ _ _ (by decide) (by decide)).mono ?_; rintro e w' ⟨rfl, rfl⟩) | (go_at_call 88; refine (read_is _ k 1 _ h (by decide) (by decide) (by omega)).mono ?_; rintro e w' ⟨rfl, rfl⟩))
    go_ret2
    exact ⟨by rw [HV.out]; rfl, rfl⟩
  · have hh' : holdsB a 1 = false := by simpa using hh
    go_enter Tryz.func51, Tryz.ntmps51
    go_wp2_with (go_at_call 87; refine (holds_is _ _ _ _ (by decide) (by decide)).mono ?_; rintro e w' ⟨rfl, rfl⟩)
    go_ret2
    exact ⟨rfl, rfl⟩
theorem Pc_is (b : Nat) (w : World) {T : TypeId} {mem regs : List Int} {pc : Int} (h : IsM T b mem regs pc w) :
    Calls Tryz.prog 50 #[.pointer (some ⟨b, 0, none⟩)] w fun e w' => e = .returned (.int .i64 pc) ∧ w' = w := by
  have hc := h.cellP
  go_enter Tryz.func50, Tryz.ntmps50
  go_wp2
  go_ret
  exact ⟨rfl, rfl⟩
end Go.Proofs.YtbmcofdodfcnnaaGreatDoor
