import Derived.Test.YtbmcofdodfcnnaaGreatDoorProg
import Derived.Test.YtbmcofdodfcnnaaGreatDoorGK
import Derived.WalkKit
import Derived.Test.YtbmcofdodfcnnaaGreatDoorGP
import Derived.OwnWalk
import Derived.Laws.IdiomStrings
import Derived.Deep.RegionHeld3
import Derived.Deep.QuietTactic
import Derived.BigQuiet
import Derived.Laws.BytesArg
namespace Go.Proofs.YtbmcofdodfcnnaaGreatDoor
open Go.RowKit
def hasB (r : Int) : Bool := decide (0 ≤ r) && decide (r ≤ 31)
def holdsB (a n : Int) : Bool := decide (0 ≤ a) && decide (a ≤ 4096 - n)
theorem has_is (b : Nat) (r : Int) (w : World) :
    Calls Tryz.prog 84 #[.pointer (some ⟨b, 0, none⟩), .int .i64 r] w fun e w' => e = .returned (.bool (hasB r)) ∧ w' = w := by
  by_cases h0 : 0 ≤ r
  · by_cases h1 : r ≤ 31
    · go_enter Tryz.func84, Tryz.ntmps84
      go_wp2
      go_ret
      exact ⟨by simp [hasB, h0, h1], rfl⟩
    · go_enter Tryz.func84, Tryz.ntmps84
      go_wp2
      go_ret
      exact ⟨by simp [hasB, h0, h1], rfl⟩
  · go_enter Tryz.func84, Tryz.ntmps84
    go_wp2
    go_ret
    exact ⟨by simp [hasB]; omega, rfl⟩
theorem holds_is (b : Nat) (a n : Int) (w : World) (n0 : 0 ≤ n) (n1 : n ≤ 8) :
    Calls Tryz.prog 87 #[.pointer (some ⟨b, 0, none⟩), .int .i64 a, .int .i64 n] w fun e w' => e = .returned (.bool (holdsB a n)) ∧ w' = w := by
  by_cases h0 : 0 ≤ a
  · by_cases h1 : a ≤ 4096 - n
    · go_enter Tryz.func87, Tryz.ntmps87
      go_wp2
      go_ret
      exact ⟨by simp [holdsB, h0, h1], rfl⟩
    · go_enter Tryz.func87, Tryz.ntmps87
      go_wp2
      go_ret
      exact ⟨by simp [holdsB, h0, h1], rfl⟩
  · go_enter Tryz.func87, Tryz.ntmps87
    go_wp2
    go_ret
    exact ⟨by simp [holdsB]; omega, rfl⟩
theorem inner_is (b : Nat) (w : World) :
    Calls Tryz.prog 46 #[.pointer (some ⟨b, 0, none⟩)] w fun e w' => e = .returned (.pointer (some ⟨b, 0, none⟩)) ∧ w' = w := by
  go_enter Tryz.func46, Tryz.ntmps46
  go_wp2
  go_ret
  exact ⟨rfl, rfl⟩
theorem put_0 (b : Nat) (v : Int) (w : World) :
    Calls Tryz.prog 85 #[.pointer (some ⟨b, 0, none⟩), .int .i64 0, .int .i64 v] w fun e w' => e = .returned (.tuple #[]) ∧ w' = w := by
  go_enter Tryz.func85, Tryz.ntmps85
  go_wp2
  go_end0
  exact ⟨rfl, rfl⟩
theorem put_n (b : Nat) (k : Nat) (v : Int) (w : World) {T : TypeId} {mem regs : List Int} {pc : Int} (h : IsM T b mem regs pc w) (k0 : 0 < k) (k1 : k < 32) :
    Calls Tryz.prog 85 #[.pointer (some ⟨b, 0, none⟩), .int .i64 k, .int .i64 v] w fun e w' => e = .returned (.tuple #[]) ∧ w' = w.setCell ⟨b, 4096 + k, none⟩ (.int .i64 v) := by
  have hc := h.cellR k k1
  have hf := h.frozen
  have hk : ¬ ((k : Int) = 0) := by omega
  go_enter Tryz.func85, Tryz.ntmps85
  go_wp2
  go_end0
  exact ⟨rfl, rfl⟩
end Go.Proofs.YtbmcofdodfcnnaaGreatDoor
namespace Go.Proofs.YtbmcofdodfcnnaaGreatDoor
open Go.RowKit
theorem wrap64_eq (n : Int) : wrap64 n = IntKind.i64.wrap n := by rw [IntKind.wrap_i64]; unfold wrap64; rfl
theorem take_snoc8 (s : ByteArray) (k : Nat) (h : k < s.size) : s.data.toList.take (k + 1) = s.data.toList.take k ++ [s[k]] := by
  rw [List.take_succ_eq_append_getElem (by simpa using h)]; rfl
set_option maxHeartbeats 400000 in
theorem number_is (s : ByteArray) (w : World) (hs : s.size ≤ 8) :
    Calls Tryz.prog 148 #[.string s] w fun e w' => e = .returned (.int .i64 (IntKind.i64.wrap (Pn.numN s.data.toList))) ∧ w' = w := by
  go_enter Tryz.func148, Tryz.ntmps148
  go_wp2
  go_loop [3, 7] (fun n i => ∃ k : Nat, k ≤ s.size ∧ i = .int .i64 k ∧ n = .int .i64 (IntKind.i64.wrap (Pn.numN (s.data.toList.take k)))) (fun _ i => s.size - (intOf i).toNat)
  case atStart => exact ⟨0, Nat.zero_le _, rfl, rfl⟩
  case round =>
    obtain ⟨k, hk, rfl, rfl⟩ := hrel
    have hl : (s.data.toList.take k).length = k := by rw [List.length_take, ← Lib.size_eq]; omega
    by_cases hlt : k < s.size
    · have hb := Pn.numN_bd (s.data.toList.take k)
      rw [hl] at hb
      have hb0 := s[k].toNat_lt
      have HS : Hid (Pn.numN (s.data.toList.take (k + 1)) = Pn.numN (s.data.toList.take k) + s[k].toNat * 2 ^ (8 * k)) := by rw [take_snoc8 s k hlt, Pn.numN_snoc, hl]; exact rfl
      have HO : Hid (Pn.orz (IntKind.i64.wrap (Pn.numN (s.data.toList.take k))) (IntKind.i64.wrap (s[k].toNat * 2 ^ (8 * k))) = IntKind.i64.wrap (Pn.numN (s.data.toList.take k) + s[k].toNat * 2 ^ (8 * k))) :=
        Pn.orz_byte _ _ k (by omega) hb.1 hb.2 (by omega) (by omega)
      clear hb
      generalize IntKind.i64.wrap (Pn.numN (s.data.toList.take k)) = x at *
      go_wp2
      go_round
      case rel =>
        refine ⟨k + 1, by omega, by go_num, ?_⟩
        rw [HS.out, ← HO.out]
        exact congrArg (fun z => Value.int .i64 (Pn.orz x z)) (wrap64_eq _)
      case measure => simp [intOf]; omega
    · go_wp2
      go_ret
      exact ⟨by rw [List.take_of_length_le (by rw [← Lib.size_eq]; omega)]; rfl, rfl⟩
theorem div256 (x : Int) (k : Nat) : x / 256 ^ (k + 1) = x / 256 ^ k / 256 := by rw [Int.pow_succ, Int.ediv_ediv_of_nonneg (Int.le_of_lt (Int.pow_pos (by decide)))]
theorem Tryz.infoByte : (Tryz.prog.info? 5).map (fun i => (i.zero, i.size, i.bytes)) = some (some (.int .u8 0), 1, 1) := by kernel_rfl
theorem byteCell_snoc (l : List UInt8) (b : UInt8) : Lib.byteCells (l ++ [b]) = Lib.byteCells l ++ [.int .u8 b.toNat] := by simp [Lib.byteCells]
theorem conv_own {w : World} {base : Nat} {v : Value} {l : List UInt8} (h : w.ownsRow base 5 1 v l.length (Lib.byteCells l)) : (convert 65 9 v).run Tryz.prog w = .ok (.string ⟨l.toArray⟩) w := by
  have h' := h
  obtain ⟨h1, ⟨rfl, h0⟩ | ⟨g, cap, cur, rfl, hg, hc, h3⟩⟩ := h
  · have hl : l = [] := List.eq_nil_of_length_eq_zero (by simpa using h0)
    subst hl
    exact run_convert_bytes_nil w 65 5 Tryz.underlying65 Tryz.underlying5 0 0 _ Tryz.underlying9
  · refine run_convert_bytes_back w _ _ 5 _ _ _ Tryz.underlying65 Tryz.underlying5 Tryz.underlying9 (fun j hj => h'.cells rfl j _ (by simp [Lib.byteCells, hj]))
set_option maxHeartbeats 800000 in
theorem bytes_is (x : Int) (n : Nat) (w : World) (hn : n ≤ 8) :
    Calls Tryz.prog 195 #[.int .i64 x, .int .i64 n] w fun e w' => e = .returned (.string ⟨(Pn.bytN n x).toArray⟩) ∧ Below w.heap.size w w' := by
  obtain ⟨i0, hi, hz0, hz1, hz2⟩ := info_parts Tryz.infoByte
  go_enter Tryz.func195, Tryz.ntmps195
  go_wp2
  go_loopw [0, 5, 7] (fun m v i wr => ∃ k : Nat, k ≤ n ∧ i = .int .i64 k ∧ m = .int .i64 (x / 256 ^ k) ∧ wr.ownsRow w.heap.size 5 1 v k (Lib.byteCells (Pn.bytN k x)) ∧ Below w.heap.size w wr) (fun _ _ i _ => n - (intOf i).toNat)
  case atStart => exact ⟨0, Nat.zero_le _, rfl, by simp, World.ownsRow_nil _ _ _ _, Below.refl _ _⟩
  case round =>
    obtain ⟨k, hk, rfl, rfl, hown, hB⟩ := hrel
    by_cases hlt : k < n
    · go_wp2_with (first
        | (at_builtin; refine wpList_append_own _ rfl _ _ 65 rfl w.heap.size 5 i0 (.int .u8 0) 1 1 Tryz.underlying65 hi hz0 hz1 hz2 rfl (by decide) _ _ _ rfl (hown.alloc _) ⟨wr.heap.size, 0, none⟩ 1 1 [.int .u8 ((x / 256 ^ k) % 256)] rfl rfl ?c1 ?c2 ?c3 ?c4 ?c5 ?_)
        | go_in)
      case c1 =>
        intro j u hj
        match j, hj with
        | 0, hj => simp at hj; subst hj; simp [Addr.add]
      case c2 => intro u hu; simp at hu; subst hu; rfl
      case c3 => unfold maxLen; omega
      case c4 => omega
      case c5 => have := hB.size; simp; omega
      · intro v' w1 hown' hgrow _
        have hB' : Below w.heap.size w w1 := (hB.alloc hB.size _).grown hgrow (by have := hB.size; simp; omega) (fun j hj => (hown.lt j hj).1)
        clear hgrow hown hB
        go_wp2
        go_roundw
        case rel => exact ⟨k + 1, by omega, by go_num, by rw [div256], by rw [Pn.bytN_snoc, byteCell_snoc, Pn.byt_nat]; exact hown', hB'⟩
        case measure => simp [intOf]; omega
    · have hkn : k = n := by omega
      subst hkn
      have hcv := conv_own (l := Pn.bytN k x) (by rw [Pn.bytN_len]; exact hown)
      go_wp2
      go_ret
      exact ⟨rfl, hB⟩
end Go.Proofs.YtbmcofdodfcnnaaGreatDoor
namespace Go.Proofs.YtbmcofdodfcnnaaGreatDoor
open Go.RowKit
theorem retI {k : IntKind} {a b : Int} (h : a = b) : Ending.returned (.int k a) = .returned (.int k b) := by rw [h]
def byt (mem : List Int) (a n : Nat) : List UInt8 := ((mem.drop a).take n).map fun x => UInt8.ofNat x.toNat
def rdP (mem : List Int) (a n : Nat) : Int := IntKind.i64.wrap (Pn.numN (byt mem a n))
theorem byt_len {mem : List Int} {a n : Nat} (h : a + n ≤ mem.length) : (byt mem a n).length = n := by simp [byt]; omega
theorem sl_lh (b a n : Nat) (w : World) (hn : 0 < n) (ha : a + n ≤ 4096) :
    (Instr.sliceAt 87 (.pointer (some ⟨b, 0, none⟩)) (some (.int .i64 a)) (some (.int .i64 (a + n))) none).run Tryz.prog w = .ok (.slice (some ⟨b, a, none⟩) n (4096 - a)) w := by
  have h1 : (0:Int) ≤ (a : Int) + n := by omega
  have h2 : (a : Int) + n ≤ 4096 := by omega
  have h3 : ((a : Int) + n).toNat = a + n := by omega
  have h4 : ¬ 4096 = a := by omega
  have hq : (Instr.sliceBound (.int .i64 a) (a + n) .sliceB).run Tryz.prog w = .ok a w := by simp [Instr.sliceBound, asIntOf]; intro h; omega
  simp [Instr.sliceAt, Instr.sureAddr, run_underlying Tryz.underlying87, Instr.sliceBounds, run_sliceBound, h1, h2, h3, h4, hq, Addr.add]
  intro h; exact h.symm
theorem sl_l (b a : Nat) (w : World) (ha : a < 4096) :
    (Instr.sliceAt 87 (.pointer (some ⟨b, 0, none⟩)) (some (.int .i64 a)) none none).run Tryz.prog w = .ok (.slice (some ⟨b, a, none⟩) (4096 - a) (4096 - a)) w := by
  have h2 : (a : Int) ≤ 4096 := by omega
  have h4 : ¬ 4096 = a := by omega
  simp [Instr.sliceAt, Instr.sureAddr, run_underlying Tryz.underlying87, Instr.sliceBounds, run_sliceBound, h2, h4, Addr.add]
  intro h; exact h.symm
set_option maxRecDepth 20000 in
theorem read_is (b : Nat) (a n : Nat) (w : World) {T : TypeId} {mem regs : List Int} {pc : Int} (h : IsM T b mem regs pc w) (h0 : 0 < n) (hn : n ≤ 8) (ha : a + n ≤ 4096) :
    Calls Tryz.prog 88 #[.pointer (some ⟨b, 0, none⟩), .int .i64 a, .int .i64 n] w fun e w' => e = .returned (.int .i64 (rdP mem a n)) ∧ w' = w := by
  have hcv : (convert 65 9 (.slice (some ⟨b, a, none⟩) n (4096 - a))).run Tryz.prog w = .ok (.string (strOfNums ((mem.drop a).take n))) w :=
    run_convert_bytes_arg w _ 5 Tryz.underlying65 Tryz.underlying5 b a n _ _ (by simp [h.mlen]; omega) (fun i hi => by rw [h.cellM (a + i) (by omega)]; simp [List.getD, hi]) _ Tryz.underlying9
  have hsl := sl_lh b a n w h0 ha
  have HS : Hid ((strOfNums ((mem.drop a).take n)).data.toList = byt mem a n) := show _ = _ from (by simp [strOfNums, byt])
  have HZ : Hid ((strOfNums ((mem.drop a).take n)).size ≤ 8) := show _ ≤ _ from (by rw [Lib.size_eq, HS.out, byt_len (by rw [h.mlen]; exact ha)]; exact hn)
  generalize strOfNums ((mem.drop a).take n) = q at *
  go_enter Tryz.func88, Tryz.ntmps88
  go_wp2_with (go_at_call 148; refine (number_is _ _ HZ.out).mono ?_; rintro e w' ⟨rfl, rfl⟩)
  go_ret
  exact ⟨retI (by unfold rdP; rw [HS.out, ← wrap64_eq]), rfl⟩
theorem Set_is (b : Nat) (r v : Int) (w : World) {T : TypeId} {mem regs : List Int} {pc : Int} (h : IsM T b mem regs pc w) :
    Calls Tryz.prog 47 #[.pointer (some ⟨b, 0, none⟩), .int .i64 r, .int .i64 v] w fun e w' => e = .returned (.int .i64 (if hasB r = true then 0 else 9)) ∧ w' = (if hasB r = true ∧ r ≠ 0 then w.setCell ⟨b, 4096 + r.toNat, none⟩ (.int .i64 v) else w) := by
  by_cases hh : hasB r = true
  · have hr : 0 ≤ r ∧ r ≤ 31 := by simpa [hasB] using hh
    obtain ⟨k, rfl⟩ := Int.eq_ofNat_of_zero_le hr.1
    by_cases h0 : k = 0
    · subst h0
      go_enter Tryz.func47, Tryz.ntmps47
      go_wp2_with (first | (go_at_call 84; refine (has_is _ _ _).mono ?_; rintro e w' ⟨rfl, rfl⟩) | (go_at_call 85; refine (put_0 _ _ _).mono ?_; rintro e w' ⟨rfl, rfl⟩))
      go_ret
      exact ⟨rfl, by simp⟩
    · go_enter Tryz.func47, Tryz.ntmps47
      go_wp2_with (first | (go_at_call 84; refine (has_is _ _ _).mono ?_; rintro e w' ⟨rfl, rfl⟩) | (go_at_call 85; refine (put_n _ k _ _ h (by omega) (by omega)).mono ?_; rintro e w' ⟨rfl, rfl⟩))
      go_ret
      exact ⟨rfl, rfl⟩
  · have hh' : hasB r = false := by simpa using hh
    go_enter Tryz.func47, Tryz.ntmps47
    go_wp2_with (go_at_call 84; refine (has_is _ _ _).mono ?_; rintro e w' ⟨rfl, rfl⟩)
    go_ret
    exact ⟨rfl, rfl⟩
theorem Get_is (b : Nat) (r : Int) (w : World) {T : TypeId} {mem regs : List Int} {pc : Int} (h : IsM T b mem regs pc w) :
    Calls Tryz.prog 49 #[.pointer (some ⟨b, 0, none⟩), .int .i64 r] w fun e w' => e = .returned (if hasB r = true then .tuple #[.int .i64 (regs.getD r.toNat 0), .int .i64 0] else .tuple #[.int .i64 0, .int .i64 9]) ∧ w' = w := by
  by_cases hh : hasB r = true
  · have hr : 0 ≤ r ∧ r ≤ 31 := by simpa [hasB] using hh
    obtain ⟨k, rfl⟩ := Int.eq_ofNat_of_zero_le hr.1
    have hc := h.cellR k (by omega)
    go_enter Tryz.func49, Tryz.ntmps49
    go_wp2_with (go_at_call 84; refine (has_is _ _ _).mono ?_; rintro e w' ⟨rfl, rfl⟩)
    go_ret2
    exact ⟨rfl, rfl⟩
  · have hh' : hasB r = false := by simpa using hh
    go_enter Tryz.func49, Tryz.ntmps49
    go_wp2_with (go_at_call 84; refine (has_is _ _ _).mono ?_; rintro e w' ⟨rfl, rfl⟩)
    go_ret2
    exact ⟨rfl, rfl⟩
theorem Peek_is (b : Nat) (a : Int) (w : World) {T : TypeId} {mem regs : List Int} {pc : Int} (h : IsM T b mem regs pc w) :
    Calls Tryz.prog 51 #[.pointer (some ⟨b, 0, none⟩), .int .i64 a] w fun e w' => e = .returned (if holdsB a 1 = true then .tuple #[.int .i64 (mem.getD a.toNat 0), .int .i64 0] else .tuple #[.int .i64 0, .int .i64 9]) ∧ w' = w := by
  by_cases hh : holdsB a 1 = true
  · have hr : 0 ≤ a ∧ a ≤ 4095 := by simpa [holdsB] using hh
    obtain ⟨k, rfl⟩ := Int.eq_ofNat_of_zero_le hr.1
    have HV : Hid (rdP mem k 1 = mem.getD k 0) := show _ = _ from (by
      unfold rdP
      have hk : k < mem.length := by rw [h.mlen]; omega
      have hb := h.byte (mem[k]) (List.getElem_mem hk)
      have e1 : byt mem k 1 = [UInt8.ofNat (mem[k]).toNat] := by
        simp [byt, List.take_one, hk]
      rw [e1]
      have e2 : (UInt8.ofNat (mem[k]).toNat).toNat = (mem[k]).toNat := by rw [UInt8.toNat_ofNat']; exact Nat.mod_eq_of_lt (by omega)
      have e3 : mem.getD k 0 = mem[k] := by simp [List.getD, hk]
      simp only [Pn.numN, e2, IntKind.wrap_i64, e3]
      omega)
    go_enter Tryz.func51, Tryz.ntmps51
    go_wp2_with (first | (go_at_call 87; refine (holds_is _ _ _ _ (by decide) (by decide)).mono ?_; rintro e w' ⟨rfl, rfl⟩) | (go_at_call 88; refine (read_is _ k 1 _ h (by decide) (by decide) (by omega)).mono ?_; rintro e w' ⟨rfl, rfl⟩))
    go_ret2
    exact ⟨by rw [HV.out]; rfl, rfl⟩
  · have hh' : holdsB a 1 = false := by simpa using hh
    go_enter Tryz.func51, Tryz.ntmps51
    go_wp2_with (go_at_call 87; refine (holds_is _ _ _ _ (by decide) (by decide)).mono ?_; rintro e w' ⟨rfl, rfl⟩)
    go_ret2
    exact ⟨rfl, rfl⟩
theorem Pc_is (b : Nat) (w : World) {T : TypeId} {mem regs : List Int} {pc : Int} (h : IsM T b mem regs pc w) :
    Calls Tryz.prog 50 #[.pointer (some ⟨b, 0, none⟩)] w fun e w' => e = .returned (.int .i64 pc) ∧ w' = w := by
  have hc := h.cellP
  go_enter Tryz.func50, Tryz.ntmps50
  go_wp2
  go_ret
  exact ⟨rfl, rfl⟩
end Go.Proofs.YtbmcofdodfcnnaaGreatDoor
