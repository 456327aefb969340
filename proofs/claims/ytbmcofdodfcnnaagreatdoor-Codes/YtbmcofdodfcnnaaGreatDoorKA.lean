import Derived.Test.YtbmcofdodfcnnaaGreatDoorK0
import Derived.Deep.WholeRow
import Derived.Below
namespace Go
theorem wpOps_run_then {P : Program} {ops : Array Oper} {Q : Exit → Act → World → Prop} {is2 : List Nat} : ∀ (is : List Nat) (a : Act) (w : World) (a' : Act) (w' : World),
    runOps P ops is a w = some (a', w') → wpOps P ops Q is2 a' w' → wpOps P ops Q (is ++ is2) a w
  | [], a, w, a', w', h, q => by simp [runOps] at h; obtain ⟨rfl, rfl⟩ := h; exact q
  | i :: rest, a, w, a', w', h, q => by
    rw [List.cons_append]
    unfold wpOps
    unfold runOps at h
    cases ho : ops[i]? with
    | none => simp only [ho] at h ⊢; exact wpOps_run_then rest _ _ _ _ h q
    | some o =>
      simp only [ho] at h ⊢
      by_cases hw : Region.wanted o (yielded ops a.tmps) = true
      · simp only [hw, if_true] at h ⊢
        refine Or.inl ?_
        unfold Oper.wp Oper.upon
        split at h
        · rename_i v w1 hr; rw [hr]; exact wpOps_run_then rest _ _ _ _ h q
        · rename_i w1 hr; rw [hr]; exact wpOps_run_then rest _ _ _ _ h q
        · simp at h
      · simp only [hw, if_false, Bool.false_eq_true] at h ⊢
        exact wpOps_run_then rest _ _ _ _ h q

theorem results_cell1 {P : Program} {fn : Func} {s : Nat} {t : TypeId} (h : fn.results = #[.cell s t]) (tmps : Array Value) (a : Addr) (w' : World) (v : Value) (ht : tmps.getD s undef = .pointer (some a)) (hv : (loadVar t a).run P w' = .ok v w') : (results fn tmps).run P w' = .ok v w' := by
  unfold results
  rw [h]
  have ht' : tmps[s]?.getD undef = .pointer (some a) := by simpa using ht
  simp [ht', hv, asAddr]

/-- A function that builds one array and hands it back: the builds by one run of the kernel's, the store and the load as whole rows. -/
theorem calls_array {P : Program} {f : FuncId} {fn : Func} {id0 id1 : Nat} {ops0 ops1 : Array Oper} {n : Nat} {o : Oper} {t : TypeId} {y s : Nat} {m : Nat} {e : TypeId} {C Z : Array Value} {w : World}
    (hf : P.funcs[f]? = some fn) (hb : fn.body = some (.seq (.region id0 ops0 false) (.seq (.region id1 ops1 false) .ret)))
    (h : ((runOps P ops0 (List.range ops0.size) { tmps := Array.replicate fn.ntmps undef, defers := [] } w).bind fun r0 =>
        (runOps P ops1 (List.range n) r0.1 r0.2).map fun r => (r.1.tmps.getD s undef, r.1.tmps.getD y undef, r.1.defers, r.2)) = some (.pointer (some ⟨w.heap.size, 0, none⟩), .agg C, [], w.alloc (.cells Z t)))
    (hn : ops1.size = n + 1) (ho : ops1[n]? = some o) (hop : o.op = .store t (.tmp s) (.tmp y)) (hg : o.guard = none) (hd : o.dst = none)
    (hr : fn.results = #[.cell s t])
    (hi : (P.info? t).map (·.size) = some C.size) (hz : Z.size = C.size) (h1 : C.all (·.oneCell') = true) (hu : P.underlying t = some (.array m e)) :
    Calls P f #[] w fun e w1 => e = .returned (.agg C) ∧ w1 = w.alloc (.cells C t) := by
  refine calls_of_wp hf hb ?_
  cases h0 : runOps P ops0 (List.range ops0.size) { tmps := Array.replicate fn.ntmps undef, defers := [] } w with
  | none => simp [h0] at h
  | some r0 =>
    obtain ⟨a1, w1⟩ := r0
    simp only [h0, Option.bind_some] at h
    cases h2 : runOps P ops1 (List.range n) a1 w1 with
    | none => simp [h2] at h
    | some r =>
      obtain ⟨a2, w2⟩ := r
      simp only [h2, Option.map_some, Option.some.injEq, Prod.mk.injEq] at h
      obtain ⟨e1, e2, e3, rfl⟩ := h
      refine wp_seq (wp_region ?_)
      have h0' : runOps P ops0 (List.range ops0.size) { tmps := #[] ++ Array.replicate (fn.ntmps - (#[] : Array Value).size) undef, defers := [] } w = some (a1, w1) := by
        simpa using h0
      refine wpOps_run _ _ _ _ _ h0' ?_
      refine wp_seq (wp_region ?_)
      rw [hn, List.range_succ]
      refine wpOps_run_then _ _ _ _ _ h2 ?_
      unfold wpOps
      simp only [ho]
      have hw : Region.wanted o (yielded ops1 a2.tmps) = true := by simp [Region.wanted, hg]
      simp only [hw, if_true]
      refine Or.inl ?_
      unfold Oper.wp Oper.upon
      have hx : (execOp a2.eval o).run P (w.alloc (.cells Z t)) = .ok .skip (w.alloc (.cells C t)) := by
        have := run_storeAt_new (P := P) w t Z C hi hz h1
        unfold execOp
        rw [hop]
        simp [Act.eval, e1, e2, this]
      rw [hx]
      have hput : a2.put o.dst undef = a2 := by rw [hd]; rfl
      show wpOps P ops1 _ [] (a2.put o.dst undef) (w.alloc (.cells C t))
      rw [hput]
      unfold wpOps
      refine wp_ret ?_
      exact ⟨e3, .agg C, results_cell1 hr _ _ _ _ e1 (run_loadVar_new w t C m e hu hi), rfl, rfl⟩
end Go
namespace Go
open Go.RowKit
/-- at block b lie these cells, none of them frozen -/
def CellsAt (b : Nat) (vs : List Value) (w : World) : Prop := b < w.heap.size ∧ (∀ q, w.frozen? ⟨b, q, none⟩ = false) ∧ ∀ j v, vs[j]? = some v → w.cell? ⟨b, j, none⟩ = some v
theorem CellsAt.step {b : Nat} {vs : List Value} {w w' : World} {B : Nat} (h : CellsAt b vs w) (hB : Below B w w') (hb : b < B) : CellsAt b vs w' :=
  ⟨by have := hB.size; have := h.1; omega, fun q => (hB.frozen (p := ⟨b, q, none⟩) hb).trans (h.2.1 q), fun j v hj => (hB.cell (p := ⟨b, j, none⟩) hb).trans (h.2.2 j v hj)⟩
theorem CellsAt.next {b : Nat} {vs : List Value} {w w' : World} (h : CellsAt b vs w) (hB : Below w.heap.size w w') : CellsAt b vs w' := h.step hB h.1
theorem CellsAt.alloc {b : Nat} {vs : List Value} {w : World} (h : CellsAt b vs w) (o : Obj) : CellsAt b vs (w.alloc o) := h.next ((Below.refl _ _).alloc (Nat.le_refl _) _)
theorem CellsAt.new (w : World) (vs : List Value) (t : TypeId) : CellsAt w.heap.size vs (w.alloc (.cells vs.toArray t)) := by
  refine ⟨by simp, fun q => ?_, fun j v hj => ?_⟩
  · unfold World.frozen?
    have : ({ block := w.heap.size, off := q } : Addr).block = w.heap.size := rfl
    rw [this, heap_alloc_last]
    simp
  · rw [cell_of_row _ _ j _ t (0, 0) (heap_alloc_last w _)]
    simpa using hj
end Go
