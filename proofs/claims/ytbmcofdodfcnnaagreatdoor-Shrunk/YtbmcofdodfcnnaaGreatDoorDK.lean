import Derived.Test.YtbmcofdodfcnnaaGreatDoorXI
import Derived.Test.YtbmcofdodfcnnaaGreatDoorEV
import Derived.Test.YtbmcofdodfcnnaaGreatDoorCards
import Derived.Test.YtbmcofdodfcnnaaGreatDoorTie
import Derived.WalkKit
import Derived.Lay
import Derived.Deep.DeepHandedRow
import Derived.Deep.Slices
import Derived.OpenShut
import Derived.SizedLaws
import Derived.MakeChecks
import Derived.Carry
namespace Go.Proofs.YtbmcofdodfcnnaaGreatDoor
open Go.ChangeShapes Go.WideShapes Go.ChangeAt Go.RowKit
theorem cellsLine : Tryz.prog.cellsOf 80 = 6 := by kernel_rfl
theorem bytesLine : Tryz.prog.bytesOf 80 = 48 := by kernel_rfl
theorem add_flat {a : Addr} (h : a.spot = none) (n : Nat) : a.add n = ⟨a.block, a.off + n, none⟩ := by
  unfold Addr.add
  split
  · next e => subst e; cases a; simp at h; subst h; rfl
  · rfl
theorem cell_spot {w : World} {a : Addr} {v : Value} (h : w.cell? a = some v) : a.spot = none := by
  unfold World.cell? at h
  split at h
  · split at h
    · cases h
    · next e => simpa using e
  · cases h
theorem cells_nth {w : World} {base n : Nat} {a : Addr} {cs : List Value} (h : w.cells? base a n = some cs) {i : Nat} (hi : i < n) : w.cell? (a.add i) = cs[i]? := by
  unfold World.cells? at h
  split at h
  · obtain ⟨b, e1, e2⟩ := Lib.mapM_at h i i (by simp [hi])
    rw [e1]; exact e2
  · cases h
section
variable {H : Type} {enc : TypeId × Value → H} {w : World} {base : Nat} {sp : Nat → Bool} {hd : Bool}
theorem int_atB {fuel : Nat} {c : Value} {x : Option (DataW H × List MemPlace)} (h : DataW.trod enc Tryz.prog w base sp hd fuel 3 [c] = x) (hx : x.isSome = true) : ∃ k, c = .int .i64 k ∧ inB k := by
  obtain ⟨y, rfl⟩ := Option.isSome_iff_exists.1 hx
  obtain ⟨k, e, _, hw⟩ := DataW.trod_int Tryz.underlying3 h
  refine ⟨k, by simpa using e, ?_⟩
  simp [Lit.wf, IntKind.min, IntKind.max, IntKind.bits, IntKind.signed] at hw
  unfold inB
  omega
theorem line_at {fuel : Nat} {cs : List Value} {x : DataW H × List MemPlace} (h : DataW.trod enc Tryz.prog w base sp hd fuel 80 cs = some x) : ∃ o : RawL, RawOk o ∧ cs = rawC o := by
  obtain ⟨xs, n, _, _, hl, hlen, hf⟩ := DataW.trod_struct Tryz.underlying80 h
  rw [cellsLine] at hl
  have hlen6 : xs.length = 6 := hlen
  have hs : ∀ i, i < 6 → (xs[i]?).isSome = true := fun i hi => by rw [List.getElem?_eq_getElem (by omega)]; rfl
  obtain ⟨c0, r0, rfl, l0⟩ := uncons hl
  obtain ⟨c1, r1, rfl, l1⟩ := uncons l0
  obtain ⟨c2, r2, rfl, l2⟩ := uncons l1
  obtain ⟨c3, r3, rfl, l3⟩ := uncons l2
  obtain ⟨c4, r4, rfl, l4⟩ := uncons l3
  obtain ⟨c5, r5, rfl, l5⟩ := uncons l4
  obtain rfl := List.length_eq_zero_iff.1 l5
  have h0 : DataW.trod enc Tryz.prog w base sp hd n 3 (([c0, c1, c2, c3, c4, c5].drop 0).take (Tryz.prog.cellsOf 3)) = xs[0]? := hf 0 _ rfl
  have h1 : DataW.trod enc Tryz.prog w base sp hd n 3 (([c0, c1, c2, c3, c4, c5].drop 1).take (Tryz.prog.cellsOf 3)) = xs[1]? := hf 1 _ rfl
  have h2 : DataW.trod enc Tryz.prog w base sp hd n 3 (([c0, c1, c2, c3, c4, c5].drop 2).take (Tryz.prog.cellsOf 3)) = xs[2]? := hf 2 _ rfl
  have h3 : DataW.trod enc Tryz.prog w base sp hd n 3 (([c0, c1, c2, c3, c4, c5].drop 3).take (Tryz.prog.cellsOf 3)) = xs[3]? := hf 3 _ rfl
  have h4 : DataW.trod enc Tryz.prog w base sp hd n 3 (([c0, c1, c2, c3, c4, c5].drop 4).take (Tryz.prog.cellsOf 3)) = xs[4]? := hf 4 _ rfl
  have h5 : DataW.trod enc Tryz.prog w base sp hd n 3 (([c0, c1, c2, c3, c4, c5].drop 5).take (Tryz.prog.cellsOf 3)) = xs[5]? := hf 5 _ rfl
  rw [cells3] at h0 h1 h2 h3 h4 h5
  obtain ⟨k0, rfl, _⟩ := int_atB h0 (hs 0 (by omega))
  obtain ⟨k1, rfl, b1⟩ := int_atB h1 (hs 1 (by omega))
  obtain ⟨k2, rfl, b2⟩ := int_atB h2 (hs 2 (by omega))
  obtain ⟨k3, rfl, b3⟩ := int_atB h3 (hs 3 (by omega))
  obtain ⟨k4, rfl, b4⟩ := int_atB h4 (hs 4 (by omega))
  obtain ⟨k5, rfl, b5⟩ := int_atB h5 (hs 5 (by omega))
  exact ⟨⟨k0, k1, k2, k3, k4, k5⟩, ⟨b1, b2, b3, b4, b5⟩, rfl⟩
end
theorem lines_at {w : World} {a : Addr} {len : Nat} (h0 : 0 < len) (h : ∀ i, i < len → ∃ o : RawL, RawOk o ∧ w.cells? 0 (a.add (i * 6)) 6 = some (rawC o)) :
    ∃ l : List RawL, l.length = len ∧ (∀ x ∈ l, RawOk x) ∧ a.spot = none ∧ ∀ k x, l[k]? = some x → ∀ q u, (rawC x)[q]? = some u → w.cell? ⟨a.block, a.off + k * 6 + q, none⟩ = some u := by
  obtain ⟨f, hf⟩ := @Go.Deep.choose_lt RawL ⟨⟨0, 0, 0, 0, 0, 0⟩⟩ _ _ h
  have hsp : a.spot = none := by
    have hc := cells_nth (hf 0 h0).2 (i := 0) (by omega)
    have e : (a.add (0 * 6)).add 0 = a := by simp [Addr.add]
    rw [e] at hc
    exact cell_spot hc
  refine ⟨(List.range len).map f, by simp, ?_, hsp, ?_⟩
  · intro x hx
    obtain ⟨k, hk, rfl⟩ := List.mem_map.1 hx
    exact (hf k (List.mem_range.1 hk)).1
  · intro k x hx q u hu
    have hk : k < len := by
      have := (List.getElem?_eq_some_iff.1 hx).1
      simpa using this
    rw [List.getElem?_map, List.getElem?_range hk] at hx
    simp only [Option.map_some, Option.some.injEq] at hx
    have hq : q < 6 := (List.getElem?_eq_some_iff.1 hu).1
    have hc := cells_nth (hf k hk).2 (i := q) hq
    rw [add_flat hsp (k * 6)] at hc
    have e : (⟨a.block, a.off + k * 6, none⟩ : Addr).add q = ⟨a.block, a.off + k * 6 + q, none⟩ := add_flat rfl q
    rw [e, hx, hu] at hc
    exact hc
theorem shrunk_on {H : Type} {enc : TypeId × Value → H} {W : World} {x : DataW H × List MemPlace} {fuel : Nat} {a0 : Option Addr} {len cap : Nat} {t1 : TypeId} {d1 : DataW H} (b : Bool) (hE : Env W)
    (hf : DataW.trod enc Tryz.prog W 0 (fun _ => true) true fuel 43 [.slice a0 len cap] = some x) (hsz : (DataW.weightsEach Tryz.prog [43, t1] [x.1, d1]).all (· ≤ reachBytes) = true) :
    Calls Tryz.prog 8 #[.slice a0 len cap, .bool b] W fun e w' => e = .returned (.bool true) ∧ Below W.heap.size W w' := by
  rcases Go.Deep.open_slice Tryz.underlying43 hf with ⟨hcs, _⟩ | ⟨a, len', cap', m, n, D, Pl, hcs, _, hl, _, hm, hx, hel⟩
  · simp at hcs
    obtain ⟨rfl, rfl, rfl⟩ := hcs
    exact shrunk_nil none 0 b W hE
  · simp at hcs
    obtain ⟨rfl, rfl, rfl⟩ := hcs
    simp only [if_true] at hm
    subst hm
    by_cases h0 : len = 0
    · subst h0
      exact shrunk_nil (some a) m b W hE
    · have hbytes : len * 48 ≤ 140737488351232 := by
        have hd : x.1 = .slice ((List.range len).map D) ((List.range (m - len)).map fun j => D (len + j)) := by rw [hx]
        rw [hd] at hsz
        have := sized_slice hsz (j := 0) (t := 43) (e := 80) rfl rfl Tryz.underlying43
        rw [bytesLine] at this
        simp only [List.length_map, List.length_range, reachBytes] at this
        omega
      rw [cellsLine] at hel
      obtain ⟨l, hlen, hok, hsp, hc⟩ := lines_at (w := W) (a := a) (len := len) (by omega) (fun i hi => by
        obtain ⟨cs', h1, h2⟩ := hel i (by omega)
        obtain ⟨o, ho, rfl⟩ := line_at h2
        exact ⟨o, ho, h1⟩)
      subst hlen
      obtain ⟨B, o, sp⟩ := a
      simp only at hsp hc
      subst hsp
      have hbl : B < W.heap.size := by
        have hx0 : l[0]? = some l[0] := List.getElem?_eq_getElem (by omega)
        exact World.block_lt_of_cell? W _ (hc 0 _ hx0 0 _ rfl)
      exact shrunk_is l B o m b W hE hok (by omega) hbl hc
set_option maxRecDepth 100000 in
theorem shrunk_contract (H : Type) (enc : TypeId × Value → H) (W : World) (base : Nat) (args : Array Value) (ds gs : List (DataW H)) (before : List MemPlace)
    (hval : ∀ (j : Nat) t v, Tryz.f8.params[j]? = some t → args[j]? = some v → Value.okWide Tryz.prog W .any base t v)
    (hW : DataW.Whole enc Tryz.prog Tryz.f8.params.toList Rows.shrunkSpec.vars false W args.toList ds gs before)
    (hsz : (DataW.weightsEach Tryz.prog (Tryz.f8.params.toList ++ Rows.shrunkSpec.plain.varTypes Tryz.prog) (ds ++ gs)).all (· ≤ reachBytes) = true)
    (hL : laidMetH Tryz.prog Rows.shrunkRow.laid W) (hS : W.ShapedOpen Tryz.prog) :
    Calls Tryz.prog 8 args W fun e W' => ∃ v, e = .returned v ∧ Rows.shrunkSpec.post enc Tryz.prog Tryz.f8 false true false false W args v W' := by
  have hE := env_of hL hS
  have hW' := hW
  obtain ⟨p, q, hA0, hV, rfl, _, _⟩ := hW
  have hA : DataW.TrodAll enc Tryz.prog W 0 (fun _ => true) true Tryz.f8.params.toList args.toList ds p := hA0
  rw [Tryz.params8] at hA hval hsz
  obtain ⟨v0, v1, d0, d1, p0, p1, rfl, rfl, rfl, h0, h1⟩ := trodAll_two hA
  obtain ⟨rfl, rfl⟩ := trodVars_none hV
  obtain ⟨a0, len, cap, rfl⟩ := okWide_slice Tryz.underlying43 (hval 0 43 v0 rfl rfl)
  obtain ⟨b, rfl⟩ := okWide_bool Tryz.underlying4 (hval 1 4 v1 rfl rfl)
  have h0k := h0
  obtain ⟨fuel, hf⟩ := h0
  clear hA0
  simp only [List.append_nil] at hW'
  have hlt0 : ∀ x ∈ p0, x.block < W.heap.size := fun x hx => by simpa using hW'.lt x (by simp [hx])
  have hlt1 : ∀ x ∈ p1, x.block < W.heap.size := fun x hx => by simpa using hW'.lt x (by simp [hx])
  have hsz' : (DataW.weightsEach Tryz.prog [43, 4] [d0, d1]).all (· ≤ reachBytes) = true := hsz
  have hf' : DataW.trod enc Tryz.prog W 0 (fun _ => true) true fuel 43 [.slice a0 len cap] = some (d0, p0) := hf
  refine (shrunk_on b hE hf' hsz').mono fun e W' ⟨he, hB⟩ => ?_
  subst he
  refine ⟨_, rfl, _, _, _, [], p0 ++ p1, [], hW', ?_, ?_, rfl, hB.frame _, fun h => by cases h⟩
  · exact trodAll_mk1 (shut_bool Tryz.underlying4 _)
  · exact trodAll_mk2 (Below.trod laidOut (by kernel_rfl) (of_decide_eq_true (by kernel_rfl)) h0k hB hlt0) (Below.trod laidOut (by kernel_rfl) (of_decide_eq_true (by kernel_rfl)) h1 hB hlt1)
theorem shrunk_reads (os : Os) {H : Type} (enc : TypeId × Value → H) : ∃ places, DataW.whole enc Tryz.prog ((World.laidAll Tryz.prog os Rows.shrunkRow.laid).forCall (fun _ _ => 0) ⟨#[], #[.slice none 0 0, .bool false], []⟩).memory Tryz.f8.params.toList Rows.shrunkSpec.vars false #[Value.slice none 0 0, Value.bool false].toList 8 = some ([.nil, .lit (.bool false)], [], places) :=
  ⟨[], by kernel_rfl⟩
set_option maxRecDepth 100000 in
theorem shrunk_witness (os : Os) (H : Type) (enc : TypeId × Value → H) :
    ∃ (w : World) (tape : Tape) (i : Input), w.os = os ∧ (w.forCall tape i).Shaped Tryz.checked.prog ∧ i.vars = [] ∧ Input.okWide Tryz.checked.prog (w.forCall tape i) .any w.heap.size 8 i ∧
      (OpenSpec.ofChange Rows.shrunkSpec).preRow enc Tryz.checked.prog Tryz.f8 Rows.shrunkRow.domain false Rows.shrunkRow.laid (w.forCall tape i).memory i.args ∧ ({} : Assume).holds Tryz.checked.prog (lone (Frame.enter Tryz.checked.prog 8 i.args .normal) [] (w.forCall tape i)) := by
  obtain ⟨places, hx⟩ := shrunk_reads os enc
  have hok : Input.okWideB Tryz.checked.prog ((World.laidAll Tryz.prog os Rows.shrunkRow.laid).forCall (fun _ _ => 0) ⟨#[], #[.slice none 0 0, .bool false], []⟩) 8 ⟨#[], #[.slice none 0 0, .bool false], []⟩ = true := by kernel_rfl
  refine ⟨World.laidAll Tryz.prog os Rows.shrunkRow.laid, fun _ _ => 0, ⟨#[], #[.slice none 0 0, .bool false], []⟩, World.laidAll_os _ _ _, World.shaped_of_ZipB (by kernel_rfl) (by kernel_rfl), (Input.okWide_of_okWideB (base := 0) hok).1, (Input.okWide_of_okWideB hok).2, ?_, ?_⟩
  · exact OpenSpec.preRow_of_cond 8 hx (by kernel_rfl) (fun k hk => by cases hk) (by kernel_rfl)
      (by rw [MakeChecks.laidMetH_plain _ _ _ (by kernel_rfl)]; exact laidMet_laidAll _ (by kernel_rfl) (by kernel_rfl))
  · simp only [Assume.holds]
    exact ⟨by simp, by simp, by simp, by simp, by simp⟩
set_option maxRecDepth 100000 in
theorem shrunk_lifted (os : Os) (started : os.Started) (H : Type) (enc : TypeId × Value → H) (F : Stop.Interp) :
    ReturnsInHanded {} Tryz.checked os 8 .any ((OpenSpec.ofChange Rows.shrunkSpec).preRow enc Tryz.prog Tryz.f8 Rows.shrunkRow.domain false Rows.shrunkRow.laid) (((OpenSpec.ofChange Rows.shrunkSpec).at F).post enc Tryz.prog Tryz.f8 false true false false) := by
  refine returnsInHanded_of_row (C := Tryz.checked) (s := OpenSpec.ofChange Rows.shrunkSpec) own started (by kernel_rfl) Tryz.func8 (shrunk_witness os H enc) ?_
  intro W base args ds gs before hval hW _ _ hsz hL hS _
  exact shrunk_contract H enc W base args ds gs before hval hW hsz hL hS
theorem shrunk_named : Tryz.pinned.checked.prog.funcNamed Rows.shrunkRow.func = some 8 := by kernel_rfl
set_option maxHeartbeats 20000000 in
theorem shrunk_closed : joinedFacts Tryz.pinned.checked.prog 8 Tryz.f8 (OpenSpec.ofChange Rows.shrunkSpec).bare Rows.shrunkRow = true := by
  unfold joinedFacts
  repeat' (with_reducible refine Bool.and_eq_true_iff.2 ⟨?_, ?_⟩)
  all_goals (as_aux_lemma => kernel_rfl)
theorem shrunk_inst : Tryz.f8.isInstance Tryz.pinned.checked.prog Rows.shrunkRow.origin Rows.shrunkRow.targs := of_decide_eq_true (by kernel_rfl)
theorem shrunk_wrap : Tryz.f8.isWrapper Tryz.pinned.checked.prog Rows.shrunkRow.wrapper Rows.shrunkRow.mainSum := by
  unfold Func.isWrapper; first | (rw [if_pos (by decide +kernel)]; kernel_rfl) | (rw [if_neg (by decide +kernel)]; exact ⟨rfl, rfl⟩)
theorem shrunk_said : Rows.ShrunkSaid :=
  OpenClaim.holds_of_cond 8 Tryz.f8 rfl rfl rfl rfl rfl rfl rfl ⟨rfl, rfl, rfl, rfl, rfl⟩ rfl rfl rfl rfl rfl shrunk_named Tryz.func8 shrunk_closed shrunk_inst shrunk_wrap
    (fun os started H enc _ F => by rw [OpenClaim.pre_eq_preRow]; exact shrunk_lifted os started H enc F)
theorem shrunk_plain (f : FuncId) (fn : Func) (hf : Tryz.pinned.checked.prog.funcNamed "pinion/pinionkeep.Shrunk" = some f) (hfn : Tryz.pinned.checked.prog.funcs[f]? = some fn) :
    true = Tryz.pinned.checked.prog.looks [] ∧ ∀ (j : Nat) t, fn.params[j]? = some t → Tryz.pinned.checked.prog.wantsStandIn t = false := by
  obtain rfl : f = 8 := Option.some.inj ((show Tryz.prog.funcNamed "pinion/pinionkeep.Shrunk" = some 8 by kernel_rfl).symm.trans hf) |>.symm
  obtain rfl : fn = Tryz.f8 := (Option.some.inj (Tryz.func8.symm.trans hfn)).symm
  refine ⟨by kernel_rfl, fun j t ht => ?_⟩
  rw [Tryz.params8] at ht
  have hm : t = 43 ∨ t = 4 := by
    have := Array.mem_of_getElem? ht
    simpa using this
  rcases hm with rfl | rfl
  · exact (show Tryz.prog.wantsStandIn 43 = false by kernel_rfl)
  · exact (show Tryz.prog.wantsStandIn 4 = false by kernel_rfl)
theorem shrunk_card : Rows.ShrunkCardSaid :=
  Claim7.holds_tied_plain_at .later [] _ _ _ _ shrunk_said (fun _ h => by cases h) (by kernel_rfl) (fun _ h => by cases h) shrunk_row_tie rfl ⟨rfl, rfl⟩ (by kernel_rfl) rfl shrunk_plain (by kernel_rfl)
end Go.Proofs.YtbmcofdodfcnnaaGreatDoor
