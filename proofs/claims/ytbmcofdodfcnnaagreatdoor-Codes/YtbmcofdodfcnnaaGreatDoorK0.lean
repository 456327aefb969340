import Derived.WalkKit
namespace Go
/-- A list of operations that call nothing, run as it stands. -/
def runOps (P : Program) (ops : Array Oper) : List Nat → Act → World → Option (Act × World)
  | [], a, w => some (a, w)
  | i :: rest, a, w =>
    match ops[i]? with
    | none => runOps P ops rest a w
    | some o =>
      if Region.wanted o (yielded ops a.tmps) then
        match (execOp a.eval o).run P w with
        | .ok (.value v) w' => runOps P ops rest (a.put o.dst v) w'
        | .ok .skip w' => runOps P ops rest (a.put o.dst undef) w'
        | _ => none
      else runOps P ops rest (a.put o.dst undef) w

theorem wpOps_run {P : Program} {ops : Array Oper} {Q : Exit → Act → World → Prop} : ∀ (is : List Nat) (a : Act) (w : World) (a' : Act) (w' : World),
    runOps P ops is a w = some (a', w') → Q .normal a' w' → wpOps P ops Q is a w
  | [], a, w, a', w', h, q => by simp [runOps] at h; obtain ⟨rfl, rfl⟩ := h; exact q
  | i :: rest, a, w, a', w', h, q => by
    unfold wpOps
    unfold runOps at h
    cases ho : ops[i]? with
    | none => simp only [ho] at h ⊢; exact wpOps_run rest _ _ _ _ h q
    | some o =>
      simp only [ho] at h ⊢
      by_cases hw : Region.wanted o (yielded ops a.tmps) = true
      · simp only [hw, if_true] at h ⊢
        refine Or.inl ?_
        unfold Oper.wp Oper.upon
        split at h
        · rename_i v w1 hr; rw [hr]; exact wpOps_run rest _ _ _ _ h q
        · rename_i w1 hr; rw [hr]; exact wpOps_run rest _ _ _ _ h q
        · simp at h
      · simp only [hw, if_false, Bool.false_eq_true] at h ⊢
        exact wpOps_run rest _ _ _ _ h q

/-- Code that calls nothing and holds no loop, run as it stands. -/
def runCode (P : Program) : Code → Act → World → Option (Exit × Act × World)
  | .skip, a, w => some (.normal, a, w)
  | .region _ ops false, a, w =>
    match runOps P ops (List.range ops.size) a w with
    | some (a', w') => some (.normal, a', w')
    | none => none
  | .seq x y, a, w =>
    match runCode P x a w with
    | some (.normal, a', w') => runCode P y a' w'
    | r => r
  | .cond c x y, a, w =>
    match a.eval c with
    | .bool true => runCode P x a w
    | .bool false => runCode P y a w
    | _ => none
  | .block id c, a, w =>
    match runCode P c a w with
    | some (.exit id', a', w') => if id' = id then some (.normal, a', w') else some (.exit id', a', w')
    | r => r
  | .exit id, a, w => some (.exit id, a, w)
  | .ret, a, w => some (.ret, a, w)
  | _, _, _ => none

theorem wp_run {P : Program} : ∀ (c : Code) {Q : Exit → Act → World → Prop} (a : Act) (w : World) (e : Exit) (a' : Act) (w' : World),
    runCode P c a w = some (e, a', w') → Q e a' w' → c.wp P Q a w
  | .skip, Q, a, w, e, a', w', h, q => by simp [runCode] at h; obtain ⟨rfl, rfl, rfl⟩ := h; exact wp_skip q
  | .region _ ops false, Q, a, w, e, a', w', h, q => by
    simp only [runCode] at h
    split at h
    · rename_i a1 w1 hr
      simp at h; obtain ⟨rfl, rfl, rfl⟩ := h
      exact wp_region (wpOps_run _ _ _ _ _ hr q)
    · simp at h
  | .region _ ops true, Q, a, w, e, a', w', h, q => by simp [runCode] at h
  | .seq x y, Q, a, w, e, a', w', h, q => by
    simp only [runCode] at h
    refine wp_seq ?_
    split at h
    · rename_i a1 w1 hr
      exact wp_run x a w _ a1 w1 hr (wp_run y a1 w1 e a' w' h q)
    · rename_i hn
      refine wp_run x a w e a' w' h ?_
      cases e with
      | normal => exact absurd h (hn a' w')
      | _ => exact q
  | .cond c x y, Q, a, w, e, a', w', h, q => by
    simp only [runCode] at h
    split at h
    · rename_i hc; exact wp_cond_true hc (wp_run x a w e a' w' h q)
    · rename_i hc; exact wp_cond_false hc (wp_run y a w e a' w' h q)
    · simp at h
  | .block id c, Q, a, w, e, a', w', h, q => by
    simp only [runCode] at h
    refine wp_block ?_
    split at h
    · rename_i id' a1 w1 hr
      refine wp_run c a w _ a1 w1 hr ?_
      unfold Exit.inBlock
      split at h
      · simp at h; obtain ⟨rfl, rfl, rfl⟩ := h; rename_i hi; simp [hi]; exact q
      · simp at h; obtain ⟨rfl, rfl, rfl⟩ := h; rename_i hi; simp [hi]; exact q
    · rename_i hn
      refine wp_run c a w e a' w' h ?_
      cases e with
      | exit id' => exact absurd h (hn id' a' w')
      | _ => exact q
  | .exit id, Q, a, w, e, a', w', h, q => by simp [runCode] at h; obtain ⟨rfl, rfl, rfl⟩ := h; exact wp_exit q
  | .ret, Q, a, w, e, a', w', h, q => by simp [runCode] at h; obtain ⟨rfl, rfl, rfl⟩ := h; exact wp_ret q
  | .loop _, Q, a, w, e, a', w', h, q => by simp [runCode] at h
  | .rangeFunc .., Q, a, w, e, a', w', h, q => by simp [runCode] at h
  | .scope _, Q, a, w, e, a', w', h, q => by simp [runCode] at h
  | .label _, Q, a, w, e, a', w', h, q => by simp [runCode] at h
  | .goto _, Q, a, w, e, a', w', h, q => by simp [runCode] at h
  | .refuse _, Q, a, w, e, a', w', h, q => by simp [runCode] at h

/-- A call of a function that calls nothing and reads nothing that it made: by one run of the kernel's. -/
theorem calls_run {P : Program} {f : FuncId} {fn : Func} {c : Code} {args : Array Value} {w : World} (v : Value) (w' : World)
    (hf : P.funcs[f]? = some fn) (hb : fn.body = some c)
    (h : (runCode P c { tmps := args ++ Array.replicate (fn.ntmps - args.size) undef, defers := [] } w).map (fun r => (r.1, r.2.1.defers, r.2.2, (results fn r.2.1.tmps).run P r.2.2)) = some (.ret, [], w', .ok v w')) :
    Calls P f args w fun e w1 => e = .returned v ∧ w1 = w' := by
  refine calls_of_wp hf hb ?_
  cases hr : runCode P c { tmps := args ++ Array.replicate (fn.ntmps - args.size) undef, defers := [] } w with
  | none => simp [hr] at h
  | some r =>
    simp only [hr, Option.map_some, Option.some.injEq, Prod.mk.injEq] at h
    obtain ⟨h1, h2, h3, h4⟩ := h
    refine wp_run c _ w r.1 r.2.1 r.2.2 hr ?_
    rw [h1]
    exact ⟨h2, v, by rw [h4, h3], rfl, h3⟩
end Go
