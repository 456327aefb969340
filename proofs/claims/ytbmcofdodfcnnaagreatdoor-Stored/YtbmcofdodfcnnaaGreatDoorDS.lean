import Derived.Test.YtbmcofdodfcnnaaGreatDoorST
import Derived.Test.YtbmcofdodfcnnaaGreatDoorGAW
import Derived.Test.YtbmcofdodfcnnaaGreatDoorEV
import Derived.Test.YtbmcofdodfcnnaaGreatDoorCards
import Derived.Test.YtbmcofdodfcnnaaGreatDoorTie
import Derived.WalkKit
import Derived.Lay
import Derived.Deep.DeepHandedRow
/-
  pinionkeep.Stored: the row and its card.
-/
namespace Go.Proofs.YtbmcofdodfcnnaaGreatDoor
open Go.ChangeShapes Go.WideShapes Go.ChangeAt Go.RowKit

set_option maxRecDepth 100000 in
theorem int_arg' {H : Type} {enc : TypeId × Value → H} {W : World} {v : Value} {d : DataW H} {p : List MemPlace} {base : Nat} (hv : Value.okWide Tryz.prog W .any base 3 v) (h : DataW.Trod enc Tryz.prog W 0 (fun _ => true) true 3 v d p) : ∃ n, v = .int .i64 n ∧ d = .lit (.int .i64 n) ∧ p = [] ∧ (Lit.int .i64 n).wf = true ∧ inB n := by
  obtain ⟨fuel, hf⟩ := h
  obtain ⟨m, rfl⟩ := okWide_int Tryz.underlying3 hv
  obtain ⟨n, e, ex, hw⟩ := DataW.trod_int Tryz.underlying3 hf
  have e2 : m = n := by simpa [Value.cells] using e
  subst e2
  have hb : inB m := by
    simp [Lit.wf, IntKind.min, IntKind.max, IntKind.bits, IntKind.signed] at hw
    unfold inB
    omega
  exact ⟨m, rfl, by simpa using congrArg Prod.fst ex, by simpa using congrArg Prod.snd ex, hw, hb⟩

set_option maxRecDepth 100000 in
theorem stored_contract (H : Type) (enc : TypeId × Value → H) (W : World) (args : Array Value) (ds gs : List (DataW H)) (before : List MemPlace) (base : Nat)
    (hval : ∀ (j : Nat) t v, Tryz.f11.params[j]? = some t → args[j]? = some v → Value.okWide Tryz.prog W .any base t v)
    (hW : DataW.Whole enc Tryz.prog Tryz.f11.params.toList Rows.storedSpec.vars false W args.toList ds gs before)
    (hL : laidMetH Tryz.prog Rows.storedRow.laid W) (hS : W.ShapedOpen Tryz.prog) :
    Calls Tryz.prog 11 args W fun e W' => ∃ v, e = .returned v ∧ Rows.storedSpec.post enc Tryz.prog Tryz.f11 false true false false W args v W' := by
  have hE := env_of hL hS
  have hW' := hW
  obtain ⟨p, q, hA0, hV, rfl, _, _⟩ := hW
  have hA : DataW.TrodAll enc Tryz.prog W 0 (fun _ => true) true Tryz.f11.params.toList args.toList ds p := hA0
  rw [Tryz.params11] at hA hval
  obtain ⟨v0, v1, v2, d0, d1, d2, p0, p1, p2, rfl, rfl, rfl, h0, h1, h2⟩ := trodAll_three hA
  obtain ⟨rfl, rfl⟩ := trodVars_none hV
  obtain ⟨a, rfl, rfl, rfl, wa, ba⟩ := int_arg' (hval 0 3 v0 rfl rfl) h0
  obtain ⟨b, rfl, rfl, rfl, wb, bb⟩ := int_arg' (hval 1 3 v1 rfl rfl) h1
  obtain ⟨c, rfl, rfl, rfl, wc, bc⟩ := int_arg' (hval 2 3 v2 rfl rfl) h2
  clear hA0
  simp only [List.append_nil] at hW'
  refine (stored_is a b c W ba bb bc (awake_is W hE)).mono fun e W' ⟨he, hB⟩ => ?_
  subst he
  refine ⟨_, rfl, _, _, _, [], [], [], hW', ?_, ?_, rfl, hB.frame _, fun h => by cases h⟩
  · exact trodAll_mk1 (shut_bool Tryz.underlying4 _)
  · exact trodAll_mk3 (shut_int Tryz.underlying3 wa) (shut_int Tryz.underlying3 wb) (shut_int Tryz.underlying3 wc)

theorem stored_reads (os : Os) {H : Type} (enc : TypeId × Value → H) : ∃ places, DataW.whole enc Tryz.prog ((World.laidAll Tryz.prog os Rows.storedRow.laid).forCall (fun _ _ => 0) ⟨#[], #[.int .i64 0, .int .i64 0, .int .i64 0], []⟩).memory Tryz.f11.params.toList Rows.storedSpec.vars false #[Value.int .i64 0, Value.int .i64 0, Value.int .i64 0].toList 8 = some ([.lit (.int .i64 0), .lit (.int .i64 0), .lit (.int .i64 0)], [], places) :=
  ⟨[], by kernel_rfl⟩

set_option maxRecDepth 100000 in
theorem stored_witness (os : Os) (H : Type) (enc : TypeId × Value → H) :
    ∃ (w : World) (tape : Tape) (i : Input), w.os = os ∧ (w.forCall tape i).Shaped Tryz.checked.prog ∧ i.vars = [] ∧ Input.okWide Tryz.checked.prog (w.forCall tape i) .any w.heap.size 11 i ∧
      (OpenSpec.ofChange Rows.storedSpec).preRow enc Tryz.checked.prog Tryz.f11 Rows.storedRow.domain false Rows.storedRow.laid (w.forCall tape i).memory i.args ∧ ({} : Assume).holds Tryz.checked.prog (lone (Frame.enter Tryz.checked.prog 11 i.args .normal) [] (w.forCall tape i)) := by
  obtain ⟨places, hx⟩ := stored_reads os enc
  have hok : Input.okWideB Tryz.checked.prog ((World.laidAll Tryz.prog os Rows.storedRow.laid).forCall (fun _ _ => 0) ⟨#[], #[.int .i64 0, .int .i64 0, .int .i64 0], []⟩) 11 ⟨#[], #[.int .i64 0, .int .i64 0, .int .i64 0], []⟩ = true := by kernel_rfl
  refine ⟨World.laidAll Tryz.prog os Rows.storedRow.laid, fun _ _ => 0, ⟨#[], #[.int .i64 0, .int .i64 0, .int .i64 0], []⟩, World.laidAll_os _ _ _, World.shaped_of_ZipB (by kernel_rfl) (by kernel_rfl), (Input.okWide_of_okWideB (base := 0) hok).1, (Input.okWide_of_okWideB hok).2, ?_, ?_⟩
  · exact OpenSpec.preRow_of_cond 8 hx (by kernel_rfl) (fun k hk => by cases hk) (by kernel_rfl)
      (by rw [MakeChecks.laidMetH_plain _ _ _ (by kernel_rfl)]; exact laidMet_laidAll _ (by kernel_rfl) (by kernel_rfl))
  · simp only [Assume.holds]
    exact ⟨by simp, by simp, by simp, by simp, by simp⟩

set_option maxRecDepth 100000 in
theorem stored_lifted (os : Os) (started : os.Started) (H : Type) (enc : TypeId × Value → H) (F : Stop.Interp) :
    ReturnsInHanded {} Tryz.checked os 11 .any ((OpenSpec.ofChange Rows.storedSpec).preRow enc Tryz.prog Tryz.f11 Rows.storedRow.domain false Rows.storedRow.laid) (((OpenSpec.ofChange Rows.storedSpec).at F).post enc Tryz.prog Tryz.f11 false true false false) := by
  refine returnsInHanded_of_row (C := Tryz.checked) (s := OpenSpec.ofChange Rows.storedSpec) own started (by kernel_rfl) Tryz.func11 (stored_witness os H enc) ?_
  intro W base args ds gs before hval hW _ _ hsz hL hS _
  exact stored_contract H enc W args ds gs before base hval hW hL hS

theorem stored_named : Tryz.pinned.checked.prog.funcNamed Rows.storedRow.func = some 11 := by kernel_rfl
set_option maxHeartbeats 20000000 in
theorem stored_closed : joinedFacts Tryz.pinned.checked.prog 11 Tryz.f11 (OpenSpec.ofChange Rows.storedSpec).bare Rows.storedRow = true := by
  unfold joinedFacts
  repeat' (with_reducible refine Bool.and_eq_true_iff.2 ⟨?_, ?_⟩)
  all_goals (as_aux_lemma => kernel_rfl)
theorem stored_inst : Tryz.f11.isInstance Tryz.pinned.checked.prog Rows.storedRow.origin Rows.storedRow.targs := of_decide_eq_true (by kernel_rfl)
theorem stored_wrap : Tryz.f11.isWrapper Tryz.pinned.checked.prog Rows.storedRow.wrapper Rows.storedRow.mainSum := by
  unfold Func.isWrapper; first | (rw [if_pos (by decide +kernel)]; kernel_rfl) | (rw [if_neg (by decide +kernel)]; exact ⟨rfl, rfl⟩)
theorem stored_said : Rows.StoredSaid :=
  OpenClaim.holds_of_cond 11 Tryz.f11 rfl rfl rfl rfl rfl rfl rfl ⟨rfl, rfl, rfl, rfl, rfl⟩ rfl rfl rfl rfl rfl stored_named Tryz.func11 stored_closed stored_inst stored_wrap
    (fun os started H enc _ F => by rw [OpenClaim.pre_eq_preRow]; exact stored_lifted os started H enc F)

theorem stored_plain (f : FuncId) (fn : Func) (hf : Tryz.pinned.checked.prog.funcNamed "pinion/pinionkeep.Stored" = some f) (hfn : Tryz.pinned.checked.prog.funcs[f]? = some fn) :
    true = Tryz.pinned.checked.prog.looks [] ∧ ∀ (j : Nat) t, fn.params[j]? = some t → Tryz.pinned.checked.prog.wantsStandIn t = false := by
  obtain rfl : f = 11 := Option.some.inj ((show Tryz.prog.funcNamed "pinion/pinionkeep.Stored" = some 11 by kernel_rfl).symm.trans hf) |>.symm
  obtain rfl : fn = Tryz.f11 := (Option.some.inj (Tryz.func11.symm.trans hfn)).symm
  refine ⟨by kernel_rfl, fun j t ht => ?_⟩
  rw [Tryz.params11] at ht
  obtain rfl : t = 3 := by
    have := Array.mem_of_getElem? ht
    simpa using this
  exact (show Tryz.prog.wantsStandIn 3 = false by kernel_rfl)

/-- THE CARD OF Stored. -/
theorem stored_card : Rows.StoredCardSaid :=
  Claim7.holds_tied_plain_at .later [] _ _ _ _ stored_said (fun _ h => by cases h) (by kernel_rfl) (fun _ h => by cases h) stored_row_tie rfl ⟨rfl, rfl⟩ (by kernel_rfl) rfl stored_plain (by kernel_rfl)
end Go.Proofs.YtbmcofdodfcnnaaGreatDoor
