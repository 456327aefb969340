import Derived.Test.YtbmcofdodfcnnaaGreatDoorUH
import Derived.Test.YtbmcofdodfcnnaaGreatDoorAX
import Derived.Test.YtbmcofdodfcnnaaGreatDoorEV
import Derived.Test.YtbmcofdodfcnnaaGreatDoorCards
import Derived.Test.YtbmcofdodfcnnaaGreatDoorTie
import Derived.WalkKit
import Derived.Lay
import Derived.Deep.DeepHandedRow
/-
  pinionkeep.Divided: the row and its card.
-/
namespace Go.Proofs.YtbmcofdodfcnnaaGreatDoor
open Go.ChangeShapes Go.WideShapes Go.ChangeAt Go.RowKit

set_option maxRecDepth 100000 in
theorem int_arg {H : Type} {enc : TypeId × Value → H} {W : World} {v : Value} {d : DataW H} {p : List MemPlace} {base : Nat} (hv : Value.okWide Tryz.prog W .any base 3 v) (h : DataW.Trod enc Tryz.prog W 0 (fun _ => true) true 3 v d p) : ∃ n, v = .int .i64 n ∧ d = .lit (.int .i64 n) ∧ p = [] ∧ (Lit.int .i64 n).wf = true ∧ inB n := by
  obtain ⟨fuel, hf⟩ := h
  obtain ⟨m, rfl⟩ := okWide_int Tryz.underlying3 hv
  obtain ⟨n, e, ex, hw⟩ := DataW.trod_int Tryz.underlying3 hf
  have e2 : m = n := by simpa [Value.cells] using e
  subst e2
  have hb : inB m := by
    simp [Lit.wf, IntKind.min, IntKind.max, IntKind.bits, IntKind.signed] at hw
    unfold inB
    omega
  exact ⟨m, rfl, by simpa using congrArg Prod.fst ex, by simpa using congrArg Prod.snd ex, hw, hb⟩

set_option maxRecDepth 100000 in
theorem divided_contract (H : Type) (enc : TypeId × Value → H) (W : World) (args : Array Value) (ds gs : List (DataW H)) (before : List MemPlace) (base : Nat)
    (hval : ∀ (j : Nat) t v, Tryz.f10.params[j]? = some t → args[j]? = some v → Value.okWide Tryz.prog W .any base t v)
    (hW : DataW.Whole enc Tryz.prog Tryz.f10.params.toList Rows.dividedSpec.vars false W args.toList ds gs before)
    (hL : laidMetH Tryz.prog Rows.dividedRow.laid W) (hS : W.ShapedOpen Tryz.prog) :
    Calls Tryz.prog 10 args W fun e W' => ∃ v, e = .returned v ∧ Rows.dividedSpec.post enc Tryz.prog Tryz.f10 false true false false W args v W' := by
  have hE := env_of hL hS
  have hW' := hW
  obtain ⟨p, q, hA0, hV, rfl, _, _⟩ := hW
  have hA : DataW.TrodAll enc Tryz.prog W 0 (fun _ => true) true Tryz.f10.params.toList args.toList ds p := hA0
  rw [Tryz.params10] at hA hval
  obtain ⟨v0, v1, d0, d1, p0, p1, rfl, rfl, rfl, h0, h1⟩ := trodAll_two hA
  obtain ⟨rfl, rfl⟩ := trodVars_none hV
  obtain ⟨a, rfl, rfl, rfl, wa, ba⟩ := int_arg (hval 0 3 v0 rfl rfl) h0
  obtain ⟨b, rfl, rfl, rfl, wb, bb⟩ := int_arg (hval 1 3 v1 rfl rfl) h1
  clear hA0
  simp only [List.append_nil] at hW'
  refine (divided_is a b W ba bb (awake_is W hE)).mono fun e W' ⟨he, hB⟩ => ?_
  subst he
  refine ⟨_, rfl, _, _, _, [], [], [], hW', ?_, ?_, rfl, hB.frame _, fun h => by cases h⟩
  · exact trodAll_mk1 (shut_bool Tryz.underlying4 _)
  · exact trodAll_mk2 (shut_int Tryz.underlying3 wa) (shut_int Tryz.underlying3 wb)

theorem divided_reads (os : Os) {H : Type} (enc : TypeId × Value → H) : ∃ places, DataW.whole enc Tryz.prog ((World.laidAll Tryz.prog os Rows.dividedRow.laid).forCall (fun _ _ => 0) ⟨#[], #[.int .i64 0, .int .i64 0], []⟩).memory Tryz.f10.params.toList Rows.dividedSpec.vars false #[Value.int .i64 0, Value.int .i64 0].toList 8 = some ([.lit (.int .i64 0), .lit (.int .i64 0)], [], places) :=
  ⟨[], by kernel_rfl⟩

set_option maxRecDepth 100000 in
theorem divided_witness (os : Os) (H : Type) (enc : TypeId × Value → H) :
    ∃ (w : World) (tape : Tape) (i : Input), w.os = os ∧ (w.forCall tape i).Shaped Tryz.checked.prog ∧ i.vars = [] ∧ Input.okWide Tryz.checked.prog (w.forCall tape i) .any w.heap.size 10 i ∧
      (OpenSpec.ofChange Rows.dividedSpec).preRow enc Tryz.checked.prog Tryz.f10 Rows.dividedRow.domain false Rows.dividedRow.laid (w.forCall tape i).memory i.args ∧ ({} : Assume).holds Tryz.checked.prog (lone (Frame.enter Tryz.checked.prog 10 i.args .normal) [] (w.forCall tape i)) := by
  obtain ⟨places, hx⟩ := divided_reads os enc
  have hok : Input.okWideB Tryz.checked.prog ((World.laidAll Tryz.prog os Rows.dividedRow.laid).forCall (fun _ _ => 0) ⟨#[], #[.int .i64 0, .int .i64 0], []⟩) 10 ⟨#[], #[.int .i64 0, .int .i64 0], []⟩ = true := by kernel_rfl
  refine ⟨World.laidAll Tryz.prog os Rows.dividedRow.laid, fun _ _ => 0, ⟨#[], #[.int .i64 0, .int .i64 0], []⟩, World.laidAll_os _ _ _, World.shaped_of_ZipB (by kernel_rfl) (by kernel_rfl), (Input.okWide_of_okWideB (base := 0) hok).1, (Input.okWide_of_okWideB hok).2, ?_, ?_⟩
  · exact OpenSpec.preRow_of_cond 8 hx (by kernel_rfl) (fun k hk => by cases hk) (by kernel_rfl)
      (by rw [MakeChecks.laidMetH_plain _ _ _ (by kernel_rfl)]; exact laidMet_laidAll _ (by kernel_rfl) (by kernel_rfl))
  · simp only [Assume.holds]
    exact ⟨by simp, by simp, by simp, by simp, by simp⟩

set_option maxRecDepth 100000 in
theorem divided_lifted (os : Os) (started : os.Started) (H : Type) (enc : TypeId × Value → H) (F : Stop.Interp) :
    ReturnsInHanded {} Tryz.checked os 10 .any ((OpenSpec.ofChange Rows.dividedSpec).preRow enc Tryz.prog Tryz.f10 Rows.dividedRow.domain false Rows.dividedRow.laid) (((OpenSpec.ofChange Rows.dividedSpec).at F).post enc Tryz.prog Tryz.f10 false true false false) := by
  refine returnsInHanded_of_row (C := Tryz.checked) (s := OpenSpec.ofChange Rows.dividedSpec) own started (by kernel_rfl) Tryz.func10 (divided_witness os H enc) ?_
  intro W base args ds gs before hval hW _ _ hsz hL hS _
  exact divided_contract H enc W args ds gs before base hval hW hL hS

theorem divided_named : Tryz.pinned.checked.prog.funcNamed Rows.dividedRow.func = some 10 := by kernel_rfl
set_option maxHeartbeats 20000000 in
theorem divided_closed : joinedFacts Tryz.pinned.checked.prog 10 Tryz.f10 (OpenSpec.ofChange Rows.dividedSpec).bare Rows.dividedRow = true := by
  unfold joinedFacts
  repeat' (with_reducible refine Bool.and_eq_true_iff.2 ⟨?_, ?_⟩)
  all_goals (as_aux_lemma => kernel_rfl)
theorem divided_inst : Tryz.f10.isInstance Tryz.pinned.checked.prog Rows.dividedRow.origin Rows.dividedRow.targs := of_decide_eq_true (by kernel_rfl)
theorem divided_wrap : Tryz.f10.isWrapper Tryz.pinned.checked.prog Rows.dividedRow.wrapper Rows.dividedRow.mainSum := by
  unfold Func.isWrapper; first | (rw [if_pos (by decide +kernel)]; kernel_rfl) | (rw [if_neg (by decide +kernel)]; exact ⟨rfl, rfl⟩)
theorem divided_said : Rows.DividedSaid :=
  OpenClaim.holds_of_cond 10 Tryz.f10 rfl rfl rfl rfl rfl rfl rfl ⟨rfl, rfl, rfl, rfl, rfl⟩ rfl rfl rfl rfl rfl divided_named Tryz.func10 divided_closed divided_inst divided_wrap
    (fun os started H enc _ F => by rw [OpenClaim.pre_eq_preRow]; exact divided_lifted os started H enc F)

theorem divided_plain (f : FuncId) (fn : Func) (hf : Tryz.pinned.checked.prog.funcNamed "pinion/pinionkeep.Divided" = some f) (hfn : Tryz.pinned.checked.prog.funcs[f]? = some fn) :
    true = Tryz.pinned.checked.prog.looks [] ∧ ∀ (j : Nat) t, fn.params[j]? = some t → Tryz.pinned.checked.prog.wantsStandIn t = false := by
  obtain rfl : f = 10 := Option.some.inj ((show Tryz.prog.funcNamed "pinion/pinionkeep.Divided" = some 10 by kernel_rfl).symm.trans hf) |>.symm
  obtain rfl : fn = Tryz.f10 := (Option.some.inj (Tryz.func10.symm.trans hfn)).symm
  refine ⟨by kernel_rfl, fun j t ht => ?_⟩
  rw [Tryz.params10] at ht
  obtain rfl : t = 3 := by
    have := Array.mem_of_getElem? ht
    simpa using this
  exact (show Tryz.prog.wantsStandIn 3 = false by kernel_rfl)

/-- THE CARD OF Divided. -/
theorem divided_card : Rows.DividedCardSaid :=
  Claim7.holds_tied_plain_at .later [] _ _ _ _ divided_said (fun _ h => by cases h) (by kernel_rfl) (fun _ h => by cases h) divided_row_tie rfl ⟨rfl, rfl⟩ (by kernel_rfl) rfl divided_plain (by kernel_rfl)
end Go.Proofs.YtbmcofdodfcnnaaGreatDoor
