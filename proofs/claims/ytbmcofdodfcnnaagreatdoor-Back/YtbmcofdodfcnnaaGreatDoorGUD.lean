import Derived.Test.YtbmcofdodfcnnaaGreatDoorGUA
import Derived.Test.YtbmcofdodfcnnaaGreatDoorGL
namespace Go.Proofs.YtbmcofdodfcnnaaGreatDoor
open Go.RowKit
def zmem : List Int := List.replicate 4096 0
def zreg : List Int := List.replicate 32 0
theorem zero_m : Tryz.zeroCells90 = (mcells zmem zreg 0).toArray := by kernel_rfl
theorem sizeByte : (Tryz.prog.info? 5).map (·.size) = some 1 := by kernel_rfl
set_option maxRecDepth 20000 in
set_option maxHeartbeats 1000000 in
theorem mnew_is (s : ByteArray) (w : World) (hs : s.size ≤ 4096) :
    Calls Tryz.prog 45 #[.string s] w fun e w' => e = .returned (.tuple #[.pointer (some ⟨w.heap.size, 0, none⟩), .int .i64 0]) ∧ IsM 90 w.heap.size (mput zmem 0 s.data.toList) zreg 0 w' ∧ Below w.heap.size w w' := by
  have hzs : Tryz.zeroCells90.size = 4129 := by rw [zero_m, List.size_toArray, mcells_len (by simp [zmem]) (by simp [zreg])]
  have HZ0 : Hid (IsM 90 w.heap.size zmem zreg 0 (w.alloc (.cells Tryz.zeroCells90 90))) :=
    (show IsM _ _ _ _ _ _ from ⟨by rw [heap_alloc_last, zero_m], by simp [zmem], by simp [zreg], by intro x hx; simp [zmem] at hx; omega⟩)
  have HM := (show Hid _ from HZ0.out.put 0 s.data.toList (by rw [← Lib.size_eq]; omega))
  have HR := (show Hid _ from run_copy_into (P := Tryz.prog) (w.alloc (.cells Tryz.zeroCells90 90)) 65 9 3 5 w.heap.size 0 4096 4096 s Tryz.zeroCells90 90 Tryz.underlying65 sizeByte (heap_alloc_last w _) hs (by omega))
  rw [← Lib.size_eq, ← zero_m] at HM
  generalize (Tryz.zeroCells90.toList.take 0 ++ Lib.byteCells s.data.toList ++ Tryz.zeroCells90.toList.drop (0 + s.size)).toArray = R at HM HR
  rw [World.setRow_alloc_new] at HM HR
  go_enter Tryz.func45, Tryz.ntmps45
  go_wp2_with fail
  rw [HR.out]
  go_wp2_with fail
  go_ret2
  exact ⟨rfl, HM.out, (Below.refl _ _).alloc (Nat.le_refl _) _⟩
end Go.Proofs.YtbmcofdodfcnnaaGreatDoor

namespace Go.Proofs.YtbmcofdodfcnnaaGreatDoor
open Go.RowKit
theorem zip_sets (C : List Value) : ∀ (n : Nat) (Z : Array Value), n + C.length ≤ Z.size → ((C.zipIdx n).foldl (fun cs (p : Value × Nat) => cs.setIfInBounds (0 + p.2) p.1) Z).toList = Z.toList.take n ++ C ++ Z.toList.drop (n + C.length) := by
  induction C with
  | nil => intro n Z _; simp
  | cons c C ih =>
    intro n Z h
    rw [List.zipIdx_cons, List.foldl_cons, ih (n + 1) _ (by simp at h ⊢; omega)]
    simp only [List.length_cons] at h
    have hn : n < Z.toList.length := by simp; omega
    simp only [Nat.zero_add, Array.toList_setIfInBounds]
    rw [List.take_set, List.drop_set_of_lt (by omega), List.take_succ_eq_append_getElem hn, List.set_append_right _ _ (by simp; omega)]
    simp [List.length_take, Nat.add_assoc, Nat.add_comm 1]
    rw [show n - min n Z.size = 0 by omega]
    rfl
theorem fill_whole (place : Nat → Option (Nat × Nat)) (Z C : Array Value) (h : place 0 = some (0, C.size)) (hz : Z.size = C.size) : Instr.fill place Z [(0, .agg C)] = some C := by
  have e : (Value.agg C).cells = C := rfl
  simp only [Instr.fill, h, e]
  rw [if_neg (by simp [hz])]
  congr 1
  apply Array.toList_inj.1
  rw [← Array.foldl_toList, Array.toList_zipIdx]
  have := zip_sets C.toList 0 Z (by simp [hz])
  rw [this]
  simp [hz]
theorem built_m (C : Array Value) (h : C.size = 4129) : Tryz.prog.built 92 [(0, .agg C)] = some C := by
  have h1 : ((Tryz.prog.info? 92).bind (·.zero)).map (·.cells.size) = some 4129 := by kernel_rfl
  have h2 : (match Tryz.prog.underlying 92 with
    | some (.struct fields) => fields.toList.mapM (fun f => (Tryz.prog.info? f.type).map fun i => (f.offset, i.size))
    | _ => none) = some [(0, 4129)] := by kernel_rfl
  unfold Program.built
  cases hi : Tryz.prog.info? 92 with
  | none => rw [hi] at h1; simp at h1
  | some i =>
    rw [hi] at h1
    cases hu : Tryz.prog.underlying 92 with
    | none => rw [hu] at h2; simp at h2
    | some d =>
      rw [hu] at h2
      cases d with
      | struct fields =>
        simp only at h2 ⊢
        cases hz : i.zero with
        | none => simp [hz] at h1
        | some z =>
          simp [hz] at h1
          simp only [h2]
          exact fill_whole _ _ _ (by simp [h]) (h1.trans h.symm)
      | _ => simp at h2
theorem load_m (b : Nat) (C : Array Value) (T : TypeId) (w : World) (h : w.heap[b]? = some (.cells C T (0, 0))) (hs : C.size = 4129) :
    (Instr.loadAt 90 (.pointer (some ⟨b, 0, none⟩))).run Tryz.prog w = .ok (.agg C) w := by
  have e1 : (isAgg 90).run Tryz.prog w = .ok true w := by simp [isAgg, run_underlying Tryz.underlying90]
  have e2 : (Go.sizeOf 90).run Tryz.prog w = .ok 4129 w := by
    have hi : (Tryz.prog.info? 90).map (·.size) = some 4129 := by kernel_rfl
    cases hq : Tryz.prog.info? 90 with
    | none => rw [hq] at hi; simp at hi
    | some i => rw [hq] at hi; simp at hi; simp [Go.sizeOf, typeInfo, hq, hi]
  have e3 := run_loadCells_list (P := Tryz.prog) w ⟨b, 0, none⟩ C.toList (fun j v hj => by
    have hadd : (⟨b, 0, none⟩ : Addr).add j = ⟨b, j, none⟩ := by unfold Addr.add; split <;> simp_all
    rw [hadd, cell_of_row w b j C T (0, 0) h]; simpa using hj)
  rw [Array.length_toList, hs] at e3
  simp only [Instr.loadAt, Instr.sureAddr, loadVar, Sem.run_bind, Sem.run_pure, Result.andThen, e1, e2, e3, if_true]
theorem wpList_load_m {w : World} {ops : Array Oper} {rest : List Oper} {o : Oper} {a : Act} {Q : Exit → Act → World → Prop} (hgd : o.guard = none) (p : Operand) (ho : o.op = Op.load 90 p)
    (b : Nat) (C : Array Value) (T : TypeId) (hp : a.eval p = .pointer (some ⟨b, 0, none⟩)) (h : w.heap[b]? = some (.cells C T (0, 0))) (hs : C.size = 4129)
    (hK : wpList Tryz.prog ops Q rest (a.put o.dst (.agg C)) w) : wpList Tryz.prog ops Q (o :: rest) a w := by
  refine wpList_plain hgd fun K hK' => ?_
  have hrun := load_m b C T w h hs
  unfold Oper.wp
  simp only [execOp, ho, hp]
  simp [hrun, Result.andThen]
  exact hK' _ _ hK
theorem wpList_build_m {w : World} {ops : Array Oper} {rest : List Oper} {o : Oper} {a : Act} {Q : Exit → Act → World → Prop} (hgd : o.guard = none) (p : Operand) (ho : o.op = Op.build 92 #[(0, p)])
    (C : Array Value) (hp : a.eval p = .agg C) (hs : C.size = 4129)
    (hK : wpList Tryz.prog ops Q rest (a.put o.dst (.agg C)) w) : wpList Tryz.prog ops Q (o :: rest) a w := by
  refine wpList_plain hgd fun K hK' => ?_
  have hrun := run_build w 92 #[(0, .agg C)] C (built_m C hs)
  unfold Oper.wp
  simp only [execOp, ho]
  simp [hp, hrun, Result.andThen]
  exact hK' _ _ hK
set_option maxRecDepth 20000 in
set_option maxHeartbeats 1000000 in
theorem pnew_is (s : ByteArray) (w : World) (hs : s.size ≤ 4096) :
    Calls Tryz.prog 24 #[.string s] w fun e w' => ∃ b, e = .returned (.tuple #[.pointer (some ⟨b, 0, none⟩), .int .i64 0]) ∧ w.heap.size ≤ b ∧ IsM 92 b (mput zmem 0 s.data.toList) zreg 0 w' ∧ Below w.heap.size w w' := by
  go_enter Tryz.func24, Tryz.ntmps24
  go_wp2_with fail
  refine (mnew_is s _ hs).mono ?_
  rintro e w1 ⟨rfl, hM1, hB1⟩
  have hsz := hB1.size
  have HB1 := (show Hid _ from hB1)
  have HM1 := (show Hid _ from hM1)
  clear hB1 hM1
  have hC : ∃ C : Array Value, C = (mcells (mput zmem 0 s.data.toList) zreg 0).toArray := ⟨_, rfl⟩
  obtain ⟨C, hC⟩ := hC
  have HC := (show Hid _ from hC)
  clear hC
  have hz : C.size = 4129 := by rw [HC.out, List.size_toArray, mcells_len HM1.out.mlen HM1.out.rlen]
  have HL : Hid (w1.heap[w.heap.size]? = some (.cells C 90 (0, 0))) := (show _ = _ from by rw [HC.out]; exact HM1.out.row)
  have HN : Hid (IsM 92 w1.heap.size (mput zmem 0 s.data.toList) zreg 0 (w1.alloc (.cells C 92))) :=
    (show IsM _ _ _ _ _ _ from ⟨by rw [heap_alloc_last, HC.out], HM1.out.mlen, HM1.out.rlen, HM1.out.byte⟩)
  go_wp2_with (first
    | (refine wpList_load_m rfl _ rfl w.heap.size C 90 rfl HL.out hz ?_)
    | (refine wpList_build_m rfl _ rfl C rfl hz ?_))
  go_ret2
  exact ⟨w1.heap.size, rfl, hsz, HN.out, HB1.out.alloc hsz _⟩
end Go.Proofs.YtbmcofdodfcnnaaGreatDoor

namespace Go.Proofs.YtbmcofdodfcnnaaGreatDoor
open Go.RowKit
theorem hasB_in {k : Nat} (h : k < 32) : hasB (k : Int) = true := by simp [hasB]; omega
/-- Set of a register that there is -/
theorem mset_in (b k : Nat) (v : Int) (w : World) {T : TypeId} {mem regs : List Int} {pc : Int} (h : IsM T b mem regs pc w) (hk : k < 32) :
    Calls Tryz.prog 47 #[.pointer (some ⟨b, 0, none⟩), .int .i64 k, .int .i64 v] w fun e w' => e = .returned (.int .i64 0) ∧ IsM T b mem (rset regs k v) pc w' ∧ Kept b w w' := by
  have hh := hasB_in hk
  refine (Set_is b k v _ h).mono ?_
  rintro e w' ⟨rfl, hw'⟩
  rw [if_pos hh]
  by_cases h0 : k = 0
  · subst h0
    simp at hw'
    subst hw'
    exact ⟨rfl, by simpa [rset] using h, Kept.refl _ _⟩
  · rw [if_pos ⟨hh, by omega⟩] at hw'
    subst hw'
    exact ⟨rfl, by unfold rset; rw [if_neg h0]; exact h.setR k hk v, Kept.setCell _ _ _ _⟩
theorem pset_in (b k : Nat) (v : Int) (w : World) {T : TypeId} {mem regs : List Int} {pc : Int} (h : IsM T b mem regs pc w) (hk : k < 32) :
    Calls Tryz.prog 25 #[.pointer (some ⟨b, 0, none⟩), .int .i64 k, .int .i64 v] w fun e w' => e = .returned (.int .i64 0) ∧ IsM T b mem (rset regs k v) pc w' ∧ Kept b w w' := by
  go_enter Tryz.func25, Tryz.ntmps25
  go_wp2_with (first
    | (go_at_call 46; refine (inner_is _ _).mono ?_; rintro e w' ⟨rfl, rfl⟩)
    | (go_at_call 47; refine (mset_in b k v _ h hk).mono ?_; rintro e w' ⟨rfl, hM', hK'⟩))
  go_ret
  exact ⟨rfl, hM', hK'⟩
theorem pget_in (b k : Nat) (w : World) {T : TypeId} {mem regs : List Int} {pc : Int} (h : IsM T b mem regs pc w) (hk : k < 32) :
    Calls Tryz.prog 30 #[.pointer (some ⟨b, 0, none⟩), .int .i64 k] w fun e w' => e = .returned (.tuple #[.int .i64 (regs.getD k 0), .int .i64 0]) ∧ w' = w := by
  have hh := hasB_in hk
  go_enter Tryz.func30, Tryz.ntmps30
  go_wp2_with (first
    | (go_at_call 46; refine (inner_is _ _).mono ?_; rintro e w' ⟨rfl, rfl⟩)
    | (go_at_call 49; refine (Get_is b k _ h).mono ?_; rw [hh]; rintro e w' ⟨rfl, rfl⟩))
  go_ret2
  exact ⟨rfl, rfl⟩
theorem ppc_is (b : Nat) (w : World) {T : TypeId} {mem regs : List Int} {pc : Int} (h : IsM T b mem regs pc w) :
    Calls Tryz.prog 31 #[.pointer (some ⟨b, 0, none⟩)] w fun e w' => e = .returned (.int .i64 pc) ∧ w' = w := by
  go_enter Tryz.func31, Tryz.ntmps31
  go_wp2_with (first
    | (go_at_call 46; refine (inner_is _ _).mono ?_; rintro e w' ⟨rfl, rfl⟩)
    | (go_at_call 50; refine (Pc_is b _ h).mono ?_; rintro e w' ⟨rfl, rfl⟩))
  go_ret
  exact ⟨rfl, rfl⟩
theorem pstep_is (b : Nat) (x y : Int) (w : World) {T : TypeId} {mem mem' regs regs' : List Int} {pc pc' : Int} (h : IsM T b mem regs pc w)
    (hs : ∀ w1, IsM T b mem regs pc w1 → Calls Tryz.prog 48 #[.pointer (some ⟨b, 0, none⟩)] w1 fun e w' => e = .returned (evV x y) ∧ IsM T b mem' regs' pc' w' ∧ Kept b w1 w') :
    Calls Tryz.prog 27 #[.pointer (some ⟨b, 0, none⟩)] w fun e w' => e = .returned (evV x y) ∧ IsM T b mem' regs' pc' w' ∧ Kept b w w' := by
  have hb := h.lt
  have HS0 := (show Hid _ from MSt.new h 56)
  have HS := (show Hid _ from hs)
  clear hs
  go_enter Tryz.func27, Tryz.ntmps27
  go_wp2_with (go_at_call 46; refine (inner_is _ _).mono ?_; rintro e w' ⟨rfl, rfl⟩)
  refine (HS.out _ HS0.out.m).mono ?_
  rintro e w1 ⟨rfl, hM1, hK1⟩
  have HE := (show Hid _ from MSt.fin HS0.out hb hM1 hK1)
  have f0 := HE.out.1.2.2 0 _ rfl
  have f1 := HE.out.1.2.2 1 _ rfl
  have ff := HE.out.1.2.1
  unfold evV
  go_wp2_with fail
  refine bodyPost_ret (v := evV x y) (by simp [results, Tryz.results27, go_sem, evV, f0, f1]) rfl ⟨rfl, ?_⟩
  exact HE.out.2 _ _
theorem prun_is (b : Nat) (m x y n : Int) (w : World) {T : TypeId} {mem mem' regs regs' : List Int} {pc pc' : Int} (h : IsM T b mem regs pc w)
    (hs : ∀ w1, IsM T b mem regs pc w1 → Calls Tryz.prog 57 #[.pointer (some ⟨b, 0, none⟩), .int .i64 m] w1 fun e w' => e = .returned (.tuple #[evV x y, .int .i64 n]) ∧ IsM T b mem' regs' pc' w' ∧ Kept b w1 w') :
    Calls Tryz.prog 34 #[.pointer (some ⟨b, 0, none⟩), .int .i64 m] w fun e w' => e = .returned (.tuple #[evV x y, .int .i64 n]) ∧ IsM T b mem' regs' pc' w' ∧ Kept b w w' := by
  have hb := h.lt
  have HS0 := (show Hid _ from MSt.new h 56)
  have HS := (show Hid _ from hs)
  clear hs
  go_enter Tryz.func34, Tryz.ntmps34
  go_wp2_with (go_at_call 46; refine (inner_is _ _).mono ?_; rintro e w' ⟨rfl, rfl⟩)
  refine (HS.out _ HS0.out.m).mono ?_
  rintro e w1 ⟨rfl, hM1, hK1⟩
  have HE := (show Hid _ from MSt.fin HS0.out hb hM1 hK1)
  have f0 := HE.out.1.2.2 0 _ rfl
  have f1 := HE.out.1.2.2 1 _ rfl
  have ff := HE.out.1.2.1
  unfold evV
  go_wp2_with fail
  refine bodyPost_ret (v := .tuple #[evV x y, .int .i64 n]) (by simp [results, Tryz.results34, go_sem, evV, f0, f1]) rfl ⟨rfl, ?_⟩
  exact HE.out.2 _ _
end Go.Proofs.YtbmcofdodfcnnaaGreatDoor
