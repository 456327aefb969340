import Derived.Test.YtbmcofdodfcnnaaGreatDoorGU1
import Derived.Test.YtbmcofdodfcnnaaGreatDoorGK
import Derived.Deep.RegionLaw
import Derived.Test.YtbmcofdodfcnnaaGreatDoorGU8
namespace Pn
def szP (op : Int) : Nat := if op = 42 ∨ op = 46 ∨ op = 50 then 1 else if op = 43 ∨ op = 47 ∨ op = 51 then 2 else if op = 44 ∨ op = 48 ∨ op = 52 then 4 else 8
def sgP (op n : Int) : Int := if op = 42 then Go.IntKind.i8.wrap n else if op = 43 then Go.IntKind.i16.wrap n else if op = 44 then Go.IntKind.i32.wrap n else n
end Pn
namespace Go.Proofs.YtbmcofdodfcnnaaGreatDoor
open Go.RowKit
theorem wi8 (n : Int) : wrap64 (IntKind.i8.wrap n) = IntKind.i8.wrap n := by
  have h : -128 ≤ IntKind.i8.wrap n ∧ IntKind.i8.wrap n < 128 := by
    simp [IntKind.wrap, IntKind.bits, IntKind.signed]
    split <;> omega
  rw [wrap64_eq, IntKind.wrap_i64]; omega
theorem wi16 (n : Int) : wrap64 (IntKind.i16.wrap n) = IntKind.i16.wrap n := by
  have h : -32768 ≤ IntKind.i16.wrap n ∧ IntKind.i16.wrap n < 32768 := by
    simp [IntKind.wrap, IntKind.bits, IntKind.signed]
    split <;> omega
  rw [wrap64_eq, IntKind.wrap_i64]; omega
theorem wi32 (n : Int) : wrap64 (IntKind.i32.wrap n) = IntKind.i32.wrap n := by
  have h : -2147483648 ≤ IntKind.i32.wrap n ∧ IntKind.i32.wrap n < 2147483648 := by
    simp [IntKind.wrap, IntKind.bits, IntKind.signed]
    split <;> omega
  rw [wrap64_eq, IntKind.wrap_i64]; omega
theorem sizeOf_is (op : Int) (w : World) : Calls Tryz.prog 202 #[.int .i64 op] w fun e w' => e = .returned (.int .i64 (Pn.szP op)) ∧ w' = w := by
  by_cases h1 : op = 42 ∨ op = 46 ∨ op = 50
  · have HS : Hid (Pn.szP op = 1) := (show _ = _ from by unfold Pn.szP; rw [if_pos h1])
    rcases h1 with rfl | rfl | rfl
    all_goals
      go_enter Tryz.func202, Tryz.ntmps202
      go_wp2
      go_ret
      exact ⟨by rw [HS.out]; rfl, rfl⟩
  · by_cases h2 : op = 43 ∨ op = 47 ∨ op = 51
    · have HS : Hid (Pn.szP op = 2) := (show _ = _ from by unfold Pn.szP; rw [if_neg h1, if_pos h2])
      rcases h2 with rfl | rfl | rfl
      all_goals
        go_enter Tryz.func202, Tryz.ntmps202
        go_wp2
        go_ret
        exact ⟨by rw [HS.out]; rfl, rfl⟩
    · by_cases h3 : op = 44 ∨ op = 48 ∨ op = 52
      · have HS : Hid (Pn.szP op = 4) := (show _ = _ from by unfold Pn.szP; rw [if_neg h1, if_neg h2, if_pos h3])
        rcases h3 with rfl | rfl | rfl
        all_goals
          go_enter Tryz.func202, Tryz.ntmps202
          go_wp2
          go_ret
          exact ⟨by rw [HS.out]; rfl, rfl⟩
      · have HS : Hid (Pn.szP op = 8) := (show _ = _ from by unfold Pn.szP; rw [if_neg h1, if_neg h2, if_neg h3])
        have a1 : ¬ op = 42 := fun e => h1 (.inl e)
        have a2 : ¬ op = 46 := fun e => h1 (.inr (.inl e))
        have a3 : ¬ op = 50 := fun e => h1 (.inr (.inr e))
        have b1 : ¬ op = 43 := fun e => h2 (.inl e)
        have b2 : ¬ op = 47 := fun e => h2 (.inr (.inl e))
        have b3 : ¬ op = 51 := fun e => h2 (.inr (.inr e))
        have c1 : ¬ op = 44 := fun e => h3 (.inl e)
        have c2 : ¬ op = 48 := fun e => h3 (.inr (.inl e))
        have c3 : ¬ op = 52 := fun e => h3 (.inr (.inr e))
        clear h1 h2 h3
        go_enter Tryz.func202, Tryz.ntmps202
        go_wp2
        go_ret
        exact ⟨by rw [HS.out]; rfl, rfl⟩
theorem msigned_is (op n : Int) (w : World) : Calls Tryz.prog 203 #[.int .i64 op, .int .i64 n] w fun e w' => e = .returned (.int .i64 (Pn.sgP op n)) ∧ w' = w := by
  by_cases h1 : op = 42
  · subst h1
    go_enter Tryz.func203, Tryz.ntmps203
    go_wp2
    go_ret
    exact ⟨retI (by unfold Pn.sgP; rw [if_pos rfl]; exact wi8 n), rfl⟩
  · by_cases h2 : op = 43
    · subst h2
      go_enter Tryz.func203, Tryz.ntmps203
      go_wp2
      go_ret
      exact ⟨retI (by unfold Pn.sgP; rw [if_neg h1, if_pos rfl]; exact wi16 n), rfl⟩
    · by_cases h3 : op = 44
      · subst h3
        go_enter Tryz.func203, Tryz.ntmps203
        go_wp2
        go_ret
        exact ⟨retI (by unfold Pn.sgP; rw [if_neg h1, if_neg h2, if_pos rfl]; rw [show wrap32 n = IntKind.i32.wrap n from by rw [IntKind.wrap_i32]; unfold wrap32; rfl]; exact wi32 n), rfl⟩
      · have HS : Hid (Pn.sgP op n = n) := (show _ = _ from by unfold Pn.sgP; rw [if_neg h1, if_neg h2, if_neg h3])
        go_enter Tryz.func203, Tryz.ntmps203
        go_wp2
        go_ret
        exact ⟨retI HS.out.symm, rfl⟩
theorem sizeByte' : (Tryz.prog.info? 5).map (·.size) = some 1 := by kernel_rfl
set_option maxRecDepth 20000 in
set_option maxHeartbeats 1000000 in
theorem mwrite_is (b a n : Nat) (v : Int) (w : World) {T : TypeId} {mem regs : List Int} {pc : Int} (h : IsM T b mem regs pc w) (h0 : 0 < n) (hn : n ≤ 8) (ha : a + n ≤ 4096) :
    Calls Tryz.prog 204 #[.pointer (some ⟨b, 0, none⟩), .int .i64 a, .int .i64 v, .int .i64 n] w fun e w' => e = .returned (.tuple #[]) ∧ IsM T b (mput mem a (Pn.bytN n v)) regs pc w' ∧ Kept b w w' := by
  have hb := h.lt
  have HM := (show Hid _ from h)
  have hsl := fun w' => sl_l b a w' (by omega)
  have hsz : (⟨(Pn.bytN n v).toArray⟩ : ByteArray).size = n := by simp [ByteArray.size, Pn.bytN_len]
  obtain ⟨R, hR⟩ : ∃ R, R = ((mcells mem regs pc).toArray.toList.take a ++ Lib.byteCells (Pn.bytN n v) ++ (mcells mem regs pc).toArray.toList.drop (a + (Pn.bytN n v).length)).toArray := ⟨_, rfl⟩
  have HP : Hid (∀ w', IsM T b mem regs pc w' → IsM T b (mput mem a (Pn.bytN n v)) regs pc (w'.setRow b R)) := (show ∀ w', _ → _ from fun w' h' => by rw [hR]; exact h'.put a (Pn.bytN n v) (by rw [Pn.bytN_len]; exact ha))
  have HR : Hid (∀ w', IsM T b mem regs pc w' → (Builtin.copy_ #[65, 9] 3 #[.slice (some ⟨b, a, none⟩) (4096 - a) (4096 - a), .string ⟨(Pn.bytN n v).toArray⟩]).run Tryz.prog w' = .ok (goInt n) (w'.setRow b R)) := (show ∀ w', _ → _ from fun w' h' => by
    have e := run_copy_into (P := Tryz.prog) w' 65 9 3 5 b a (4096 - a) (4096 - a) ⟨(Pn.bytN n v).toArray⟩ (mcells mem regs pc).toArray T Tryz.underlying65 sizeByte' h'.row (by rw [hsz]; omega) (by rw [hsz, List.size_toArray, mcells_len h'.mlen h'.rlen]; omega)
    rw [e, hsz, hR, Pn.bytN_len])
  clear h hR hsz
  go_enter Tryz.func204, Tryz.ntmps204
  go_wp2_with fail
  have HMd := (show Hid _ from HM.out.next ((Below.refl _ _).drew))
  have HKd := (show Hid _ from (Kept.of_below ((Below.refl w.heap.size w).drew) b))
  go_region_with (first
    | (go_at_call 195; refine (bytes_is v n _ hn).mono ?_; rintro e w' ⟨rfl, hB'⟩; have HM' := (show Hid _ from HMd.out.next hB'); have HK' := (show Hid _ from HKd.out.trans (Kept.of_below hB' b)); clear hB')
    | (rw [HR.out _ HM'.out]; go_simp))
  have HE := (show Hid _ from HP.out _ HM'.out)
  have HK := (show Hid _ from HK'.out.trans (Kept.setRow b _ R))
  generalize World.setRow _ b R = Z at *
  go_wp2_with fail
  go_end0
  exact ⟨rfl, HE.out, HK.out⟩
end Go.Proofs.YtbmcofdodfcnnaaGreatDoor
namespace Pn
theorem szP_pos (op : Int) : 0 < szP op ∧ szP op ≤ 8 := by unfold szP; split <;> (try split) <;> (try split) <;> decide
end Pn
namespace Go.Proofs.YtbmcofdodfcnnaaGreatDoor
open Go.RowKit
set_option maxRecDepth 20000 in
set_option maxHeartbeats 1000000 in
theorem load_in (b a o rd : Nat) (r1 r2 imm p : Int) (w : World) {T : TypeId} {mem regs : List Int} {pc : Int} (h : IsM T b mem regs pc w) (ha : a + Pn.szP o ≤ 4096) (hd : rd < 32) :
    Calls Tryz.prog 151 #[.pointer (some ⟨b, 0, none⟩), (Pn.Ins.mk o rd r1 r2 imm).val, .int .i64 a, .int .i64 p] w fun e w' => e = .returned (evV 0 0) ∧ IsM T b mem (rset regs rd (Pn.sgP o (rdP mem a (Pn.szP o)))) p w' ∧ Kept b w w' := by
  have hb := h.lt
  have HD := (show Hid _ from MDo.new h [.int .i64 o, .int .i64 rd, .int .i64 r1, .int .i64 r2, .int .i64 imm] 26 56)
  have hz := Pn.szP_pos o
  have HSz := (show Hid _ from fun w' => sizeOf_is o w')
  have HSg := (show Hid _ from fun n w' => msigned_is o n w')
  unfold Pn.Ins.val
  simp only
  generalize Pn.szP o = n at *
  have hh : holdsB a n = true := by simp [holdsB]; omega
  have HRd := (show Hid _ from fun w' (h' : IsM T b mem regs pc w') => read_is b a n w' h' hz.1 hz.2 ha)
  generalize rdP mem a n = V at *
  generalize hX : Pn.sgP o V = X at *
  have HX := (show Hid _ from hX)
  clear hX h
  go_enter Tryz.func151, Tryz.ntmps151
  go_wp2_with (first
    | (go_at_call 202; refine (HSz.out _).mono ?_; rintro e w' ⟨rfl, rfl⟩)
    | (go_at_call 87; refine (holds_is _ _ _ _ (by omega) (by omega)).mono ?_; rintro e w' ⟨rfl, rfl⟩))
  generalize World.alloc (w.alloc _) _ = W2 at HD ⊢
  have i0 := HD.out.i.2.2 0 _ rfl
  have i1 := HD.out.i.2.2 1 _ rfl
  have hD2 := HD.out
  go_region_held3 (fun w' => w'.cell? ⟨w.heap.size, 0, none⟩ = some (.int .i64 o) ∧ w'.cell? ⟨w.heap.size, 1, none⟩ = some (.int .i64 rd)) (go_keep)
      (first
        | (go_at_call 88; refine (HRd.out _ (MDo.m (by first | assumption | exact MDo.next hD2 ((Below.refl _ _).drew)))).mono ?_; rintro e w' ⟨rfl, rfl⟩)
        | (go_at_call 203; refine (HSg.out V _).mono ?_; rw [HX.out]; rintro e w' ⟨rfl, rfl⟩)
        | (go_at_call 149; refine (goOn_is b rd _ _ _ (MDo.m (by first | assumption | exact MDo.next hD2 ((Below.refl _ _).drew))) hd).mono ?_; rintro e w' ⟨rfl, hM', hK'⟩; obtain ⟨hI', hE', hF'⟩ := do_end (by first | assumption | exact MDo.next hD2 ((Below.refl _ _).drew)) hb hM' hK'; have q0 := hI'.2.2 0 _ rfl; have q1 := hI'.2.2 1 _ rfl; have f0 := hE'.2.2 0 _ rfl; have f1 := hE'.2.2 1 _ rfl; have ff := hE'.2.1; unfold evV))
  have HF := (show Hid _ from hF')
  go_wp2_with fail
  refine bodyPost_ret (v := evV 0 0) (by simp [results, Tryz.results151, go_sem, evV, f0, f1]) rfl ⟨rfl, ?_⟩
  exact HF.out _ _
end Go.Proofs.YtbmcofdodfcnnaaGreatDoor
namespace Go.Proofs.YtbmcofdodfcnnaaGreatDoor
open Go.RowKit
theorem MDo.kept {T : TypeId} {b : Nat} {mem mem' regs regs' : List Int} {pc p : Int} {w0 w w' : World} {i : List Value} (h : MDo T b mem regs pc w0 i w) (hb : b < w0.heap.size) (hM : IsM T b mem' regs' p w') (hK : Kept b w w') : MDo T b mem' regs' p w0 i w' :=
  ⟨hM, h.i.kept hK (by omega), h.e.kept hK (by omega), h.k.trans hK⟩
set_option maxRecDepth 20000 in
set_option maxHeartbeats 1000000 in
theorem store_in (b a o r2 : Nat) (r1 imm p : Int) (w : World) {T : TypeId} {mem regs : List Int} {pc : Int} (h : IsM T b mem regs pc w) (ha : a + Pn.szP o ≤ 4096) (h2 : r2 < 32) :
    Calls Tryz.prog 152 #[.pointer (some ⟨b, 0, none⟩), (Pn.Ins.mk o 0 r1 r2 imm).val, .int .i64 a, .int .i64 p] w fun e w' => e = .returned (evV 0 0) ∧ IsM T b (mput mem a (Pn.bytN (Pn.szP o) (regs.getD r2 0))) regs p w' ∧ Kept b w w' := by
  have hb := h.lt
  have HD := (show Hid _ from MDo.new h [.int .i64 o, .int .i64 0, .int .i64 r1, .int .i64 r2, .int .i64 imm] 26 56)
  have hz := Pn.szP_pos o
  have HSz := (show Hid _ from fun w' => sizeOf_is o w')
  unfold Pn.Ins.val
  simp only
  generalize Pn.szP o = n at *
  have hh : holdsB a n = true := by simp [holdsB]; omega
  have HWr := (show Hid _ from fun w' v (h' : IsM T b mem regs pc w') => mwrite_is b a n v w' h' hz.1 hz.2 ha)
  clear h
  go_enter Tryz.func152, Tryz.ntmps152
  go_wp2_with (first
    | (go_at_call 202; refine (HSz.out _).mono ?_; rintro e w' ⟨rfl, rfl⟩)
    | (go_at_call 87; refine (holds_is _ _ _ _ (by omega) (by omega)).mono ?_; rintro e w' ⟨rfl, rfl⟩))
  generalize World.alloc (w.alloc _) _ = W2 at HD ⊢
  have i3 := HD.out.i.2.2 3 _ rfl
  have m2 := HD.out.m.cellR r2 h2
  have hr2 : (r2 : Int) < 32 := by omega
  generalize hX : regs.getD r2 0 = X at *
  have HX := (show Hid _ from hX)
  clear hX
  go_region_with (go_at_call 204; refine (HWr.out _ X (HD.out.next ((Below.refl _ _).drew)).m).mono ?_; rintro e w3 ⟨rfl, hM3, hK3⟩)
  have HD3 := (show Hid _ from MDo.kept (HD.out.next ((Below.refl _ _).drew)) hb hM3 hK3)
  clear hM3 hK3 HD i3 m2
  have i1 := HD3.out.i.2.2 1 _ rfl
  go_wp2_with fail
  refine (goOn_is b 0 _ _ _ HD3.out.m (by omega)).mono ?_
  rintro e w4 ⟨rfl, hM4, hK4⟩
  have HE := (show Hid _ from do_end HD3.out hb hM4 hK4)
  have f0 := HE.out.2.1.2.2 0 _ rfl
  have f1 := HE.out.2.1.2.2 1 _ rfl
  have ff := HE.out.2.1.2.1
  clear hM4 hK4
  unfold evV
  go_wp2_with fail
  refine bodyPost_ret (v := evV 0 0) (by simp [results, Tryz.results152, go_sem, evV, f0, f1]) rfl ⟨rfl, ?_⟩
  rw [HX.out]
  exact HE.out.2.2 _ _
end Go.Proofs.YtbmcofdodfcnnaaGreatDoor
namespace Go.Proofs.YtbmcofdodfcnnaaGreatDoor
open Go.RowKit
set_option maxRecDepth 20000 in
set_option maxHeartbeats 1000000 in
theorem do_L (b o r1 rd : Nat) (imm p ad x y : Int) (w : World) {T : TypeId} {mem regs mem' regs' : List Int} {pc pc' : Int} (h : IsM T b mem regs pc w) (h1 : r1 < 32) (hj : ¬ (o : Int) = 49)
    (hv : Pn.rightV ⟨o, rd, r1, 0, imm⟩ = .tuple #[Pn.irowV (o - 1), .bool true]) (hkd : Pn.kdI (Pn.row (o - 1)).kind = 4) (hA : IntKind.i64.wrap (regs.getD r1 0 + imm) = ad)
    (hld : ∀ w1, IsM T b mem regs pc w1 → Calls Tryz.prog 151 #[.pointer (some ⟨b, 0, none⟩), (Pn.Ins.mk o rd r1 0 imm).val, .int .i64 ad, .int .i64 p] w1 fun e w' => e = .returned (evV x y) ∧ IsM T b mem' regs' pc' w' ∧ Kept b w1 w') :
    Calls Tryz.prog 90 #[.pointer (some ⟨b, 0, none⟩), (Pn.Ins.mk o rd r1 0 imm).val, .int .i64 p] w fun e w' => e = .returned (evV x y) ∧ IsM T b mem' regs' pc' w' ∧ Kept b w w' := by
  have hb := h.lt
  unfold Pn.Ins.val at hld
  simp only at hld
  have HLd := (show Hid _ from hld)
  clear hld
  go_enter Tryz.func90, Tryz.ntmps90
  unfold Pn.Ins.val
  simp only
  go_wp2_with fail
  refine (iright_any (Pn.Ins.mk o rd r1 0 imm) _).mono ?_
  rintro e w1 ⟨rfl, hB1⟩
  have HD1 := (show Hid _ from (MDo.new h [.int .i64 o, .int .i64 rd, .int .i64 r1, .int .i64 0, .int .i64 imm] 26 56).next hB1)
  clear hB1
  have i0 := HD1.out.i.2.2 0 _ rfl
  have i1 := HD1.out.i.2.2 1 _ rfl
  have i2 := HD1.out.i.2.2 2 _ rfl
  have i3 := HD1.out.i.2.2 3 _ rfl
  have hs0 := HD1.out.i.1
  have hs1 := HD1.out.e.1
  have m1 := HD1.out.m.cellR r1 h1
  have m2 := HD1.out.m.cellR 0 (by decide)
  have mb := HD1.out.m.lt
  rw [hv]
  unfold Pn.irowV Pn.irow
  rw [hkd]
  generalize hX1 : regs.getD r1 0 = X1 at *
  have HX1 := (show Hid _ from hX1)
  clear hX1
  have i4 := HD1.out.i.2.2 4 _ rfl
  have hA2 : wrap64 (X1 + imm) = ad := (wrap64_eq _).trans hA
  clear hA
  go_wp2_with fail
  go_quiet (fail)
  have hD2 := (HD1.out.alloc (.cells (Pn.irow (o - 1)).toArray 100)).drewN nq
  unfold Pn.irow at hD2
  rw [hkd] at hD2
  have HD2 := (show Hid _ from hD2)
  clear HD1 hD2
  go_wp2_with fail
  refine (HLd.out _ HD2.out.m).mono ?_
  rintro e w3 ⟨rfl, hM3, hK3⟩
  have HE := (show Hid _ from do_end HD2.out hb hM3 hK3)
  clear hM3 hK3 HD2 i0 i1 i2 i3 i4 hs0 hs1 m1 m2 mb
  have f0 := HE.out.2.1.2.2 0 _ rfl
  have f1 := HE.out.2.1.2.2 1 _ rfl
  have ff := HE.out.2.1.2.1
  unfold evV
  go_wp2_with fail
  refine bodyPost_ret (v := evV x y) (by simp [results, Tryz.results90, go_sem, evV, f0, f1]) rfl ⟨rfl, ?_⟩
  exact HE.out.2.2 _ _
set_option maxRecDepth 20000 in
set_option maxHeartbeats 1000000 in
theorem do_S (b o r1 r2 : Nat) (imm p ad x y : Int) (w : World) {T : TypeId} {mem regs mem' regs' : List Int} {pc pc' : Int} (h : IsM T b mem regs pc w) (h1 : r1 < 32) (h2 : r2 < 32)
    (hv : Pn.rightV ⟨o, 0, r1, r2, imm⟩ = .tuple #[Pn.irowV (o - 1), .bool true]) (hkd : Pn.kdI (Pn.row (o - 1)).kind = 5) (hA : IntKind.i64.wrap (regs.getD r1 0 + imm) = ad)
    (hld : ∀ w1, IsM T b mem regs pc w1 → Calls Tryz.prog 152 #[.pointer (some ⟨b, 0, none⟩), (Pn.Ins.mk o 0 r1 r2 imm).val, .int .i64 ad, .int .i64 p] w1 fun e w' => e = .returned (evV x y) ∧ IsM T b mem' regs' pc' w' ∧ Kept b w1 w') :
    Calls Tryz.prog 90 #[.pointer (some ⟨b, 0, none⟩), (Pn.Ins.mk o 0 r1 r2 imm).val, .int .i64 p] w fun e w' => e = .returned (evV x y) ∧ IsM T b mem' regs' pc' w' ∧ Kept b w w' := by
  have hb := h.lt
  unfold Pn.Ins.val at hld
  simp only at hld
  have HLd := (show Hid _ from hld)
  clear hld
  go_enter Tryz.func90, Tryz.ntmps90
  unfold Pn.Ins.val
  simp only
  go_wp2_with fail
  refine (iright_any (Pn.Ins.mk o 0 r1 r2 imm) _).mono ?_
  rintro e w1 ⟨rfl, hB1⟩
  have HD1 := (show Hid _ from (MDo.new h [.int .i64 o, .int .i64 0, .int .i64 r1, .int .i64 r2, .int .i64 imm] 26 56).next hB1)
  clear hB1
  have i0 := HD1.out.i.2.2 0 _ rfl
  have i1 := HD1.out.i.2.2 1 _ rfl
  have i2 := HD1.out.i.2.2 2 _ rfl
  have i3 := HD1.out.i.2.2 3 _ rfl
  have hs0 := HD1.out.i.1
  have hs1 := HD1.out.e.1
  have m1 := HD1.out.m.cellR r1 h1
  have m2 := HD1.out.m.cellR r2 h2
  have mb := HD1.out.m.lt
  rw [hv]
  unfold Pn.irowV Pn.irow
  rw [hkd]
  generalize hX1 : regs.getD r1 0 = X1 at *
  have HX1 := (show Hid _ from hX1)
  clear hX1
  have i4 := HD1.out.i.2.2 4 _ rfl
  have hA2 : wrap64 (X1 + imm) = ad := (wrap64_eq _).trans hA
  clear hA
  go_wp2_with fail
  go_quiet (fail)
  have hD2 := (HD1.out.alloc (.cells (Pn.irow (o - 1)).toArray 100)).drewN nq
  unfold Pn.irow at hD2
  rw [hkd] at hD2
  have HD2 := (show Hid _ from hD2)
  clear HD1 hD2
  go_wp2_with fail
  refine (HLd.out _ HD2.out.m).mono ?_
  rintro e w3 ⟨rfl, hM3, hK3⟩
  have HE := (show Hid _ from do_end HD2.out hb hM3 hK3)
  clear hM3 hK3 HD2 i0 i1 i2 i3 i4 hs0 hs1 m1 m2 mb
  have f0 := HE.out.2.1.2.2 0 _ rfl
  have f1 := HE.out.2.1.2.2 1 _ rfl
  have ff := HE.out.2.1.2.1
  unfold evV
  go_wp2_with fail
  refine bodyPost_ret (v := evV x y) (by simp [results, Tryz.results90, go_sem, evV, f0, f1]) rfl ⟨rfl, ?_⟩
  exact HE.out.2.2 _ _
end Go.Proofs.YtbmcofdodfcnnaaGreatDoor
