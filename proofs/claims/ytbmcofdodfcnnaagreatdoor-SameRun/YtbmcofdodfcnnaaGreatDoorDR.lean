import Derived.Test.YtbmcofdodfcnnaaGreatDoorXJ
import Derived.Test.YtbmcofdodfcnnaaGreatDoorDK
namespace Go.Proofs.YtbmcofdodfcnnaaGreatDoor
open Go.ChangeShapes Go.WideShapes Go.ChangeAt Go.RowKit
theorem bytesInt : Tryz.prog.bytesOf 3 = 8 := by kernel_rfl
theorem prog_on {H : Type} {enc : TypeId × Value → H} {W : World} {x : DataW H × List MemPlace} {fuel : Nat} {a0 : Option Addr} {len cap : Nat} {ts : List TypeId} {ds : List (DataW H)} (hE : Env W)
    (hf : DataW.trod enc Tryz.prog W 0 (fun _ => true) true fuel 43 [.slice a0 len cap] = some x) (hsz : (DataW.weightsEach Tryz.prog (43 :: ts) (x.1 :: ds)).all (· ≤ reachBytes) = true) :
    ∀ w1, Below W.heap.size W w1 → Calls Tryz.prog 22 #[.slice a0 len cap] w1 fun e w2 => ∃ s : ByteArray, e = .returned (.string s) ∧ (∃ A B : ByteArray, asmA s false = (A.data.toList, 0, 0) ∧ asmA s true = (B.data.toList, 0, 0) ∧ Two A B) ∧ Below w1.heap.size w1 w2 := by
  have fin : ∀ (w1 : World), Below W.heap.size W w1 → (Calls Tryz.prog 22 #[.slice a0 len cap] w1 fun e w' => ∃ (ps : List Pn.Sta) (s : ByteArray), e = .returned (.string s) ∧ ps.length ≤ 24 ∧ (∀ x ∈ ps, Pn.StaOk ps.length x) ∧ s.data.toList = Pn.progT ps ∧ Below w1.heap.size w1 w') →
      Calls Tryz.prog 22 #[.slice a0 len cap] w1 fun e w2 => ∃ s : ByteArray, e = .returned (.string s) ∧ (∃ A B : ByteArray, asmA s false = (A.data.toList, 0, 0) ∧ asmA s true = (B.data.toList, 0, 0) ∧ Two A B) ∧ Below w1.heap.size w1 w2 := fun w1 _ h => by
    refine h.mono ?_
    rintro e w2 ⟨ps, s, rfl, h1, h2, h3, h4⟩
    exact ⟨s, rfl, two_prog h2 h1 h3, h4⟩
  rcases Go.Deep.open_slice Tryz.underlying43 hf with ⟨hcs, _⟩ | ⟨a, len', cap', m, n, D, Pl, hcs, _, hl, _, hm, hx, hel⟩
  · simp at hcs
    obtain ⟨rfl, rfl, rfl⟩ := hcs
    exact fun w1 hB => fin w1 hB (program_nil none 0 w1 (hE.below hB hE.1))
  · simp at hcs
    obtain ⟨rfl, rfl, rfl⟩ := hcs
    simp only [if_true] at hm
    subst hm
    by_cases h0 : len = 0
    · subst h0
      exact fun w1 hB => fin w1 hB (program_nil (some a) m w1 (hE.below hB hE.1))
    · have hbytes : len * 48 ≤ 140737488351232 := by
        have hd : x.1 = .slice ((List.range len).map D) ((List.range (m - len)).map fun j => D (len + j)) := by rw [hx]
        rw [hd] at hsz
        have := sized_slice hsz (j := 0) (t := 43) (e := 80) rfl rfl Tryz.underlying43
        rw [bytesLine] at this
        simp only [List.length_map, List.length_range, reachBytes] at this
        omega
      rw [cellsLine] at hel
      obtain ⟨l, hlen, hok, hsp, hc⟩ := lines_at (w := W) (a := a) (len := len) (by omega) (fun i hi => by
        obtain ⟨cs', h1, h2⟩ := hel i (by omega)
        obtain ⟨o, ho, rfl⟩ := line_at h2
        exact ⟨o, ho, h1⟩)
      subst hlen
      obtain ⟨B, o, sp⟩ := a
      simp only at hsp hc
      subst hsp
      have hbl : B < W.heap.size := by
        have hx0 : l[0]? = some l[0] := List.getElem?_eq_getElem (by omega)
        exact World.block_lt_of_cell? W _ (hc 0 _ hx0 0 _ rfl)
      exact fun w1 hB => fin w1 hB (program_is l B o m w1 (hE.below hB hE.1) hok (by omega) (Nat.lt_of_lt_of_le hbl hB.size) (fun k x hx q u hu => (hB.cell (p := ⟨B, o + k * 6 + q, none⟩) hbl).trans (hc k x hx q u hu)))
theorem seeds_on {H : Type} {enc : TypeId × Value → H} {W : World} {x : DataW H × List MemPlace} {fuel : Nat} {s0 : Option Addr} {slen scap : Nat} {t0 : TypeId} {d0 : DataW H} {ts : List TypeId} {ds : List (DataW H)}
    (hf : DataW.trod enc Tryz.prog W 0 (fun _ => true) true fuel 49 [.slice s0 slen scap] = some x) (hsz : (DataW.weightsEach Tryz.prog (t0 :: 49 :: ts) (d0 :: x.1 :: ds)).all (· ≤ reachBytes) = true) :
    slen < 1000000000000000 ∧ ∀ i, i < slen → ∃ (B o : Nat) (v : Int), s0 = some ⟨B, o, none⟩ ∧ B < W.heap.size ∧ inB v ∧ W.cell? ⟨B, o + i, none⟩ = some (.int .i64 v) := by
  rcases Go.Deep.open_slice Tryz.underlying49 hf with ⟨hcs, _⟩ | ⟨a, len', cap', m, n, D, Pl, hcs, _, hl, _, hm, hx, hel⟩
  · simp at hcs
    obtain ⟨rfl, rfl, rfl⟩ := hcs
    exact ⟨by omega, fun i hi => by omega⟩
  · simp at hcs
    obtain ⟨rfl, rfl, rfl⟩ := hcs
    simp only [if_true] at hm
    subst hm
    have hbytes : slen * 8 ≤ 140737488351232 := by
      have hd : x.1 = .slice ((List.range slen).map D) ((List.range (m - slen)).map fun j => D (slen + j)) := by rw [hx]
      rw [hd] at hsz
      have := sized_slice hsz (j := 1) (t := 49) (e := 3) rfl rfl Tryz.underlying49
      rw [bytesInt] at this
      simp only [List.length_map, List.length_range, reachBytes] at this
      omega
    refine ⟨by omega, fun i hi => ?_⟩
    rw [cells3] at hel
    have hval : ∀ i, i < slen → ∃ v, inB v ∧ W.cell? (a.add i) = some (.int .i64 v) := fun i hi => by
      obtain ⟨cs', h1, h2⟩ := hel i (by omega)
      rw [Nat.mul_one] at h1
      have hc := cells_nth h1 (i := 0) (by omega)
      have hlen : cs'.length = 1 := by
        unfold World.cells? at h1
        split at h1
        · have := mapM_some_length h1
          simpa using this
        · cases h1
      obtain ⟨c, r, rfl, hr⟩ := uncons hlen
      obtain rfl := List.length_eq_zero_iff.1 hr
      obtain ⟨v, rfl, hv⟩ := int_atB h2 rfl
      have e : (a.add i).add 0 = a.add i := by simp [Addr.add]
      rw [e] at hc
      exact ⟨v, hv, hc⟩
    have hsp : a.spot = none := by
      obtain ⟨v, _, hc⟩ := hval 0 (by omega)
      have e : a.add 0 = a := by simp [Addr.add]
      rw [e] at hc
      exact cell_spot hc
    obtain ⟨v, hv, hc⟩ := hval i hi
    rw [add_flat hsp] at hc
    obtain ⟨B, o, sp⟩ := a
    simp only at hsp hc
    subst hsp
    exact ⟨B, o, v, rfl, World.block_lt_of_cell? W _ hc, hv, hc⟩
set_option maxRecDepth 100000 in
theorem int_argR {H : Type} {enc : TypeId × Value → H} {W : World} {v : Value} {d : DataW H} {p : List MemPlace} {base : Nat} (hv : Value.okWide Tryz.prog W .any base 3 v) (h : DataW.Trod enc Tryz.prog W 0 (fun _ => true) true 3 v d p) : ∃ n, v = .int .i64 n ∧ inB n := by
  obtain ⟨fuel, hf⟩ := h
  obtain ⟨m, rfl⟩ := okWide_int Tryz.underlying3 hv
  obtain ⟨n, e, ex, hw⟩ := DataW.trod_int Tryz.underlying3 hf
  have e2 : m = n := by simpa [Value.cells] using e
  subst e2
  refine ⟨m, rfl, ?_⟩
  simp [Lit.wf, IntKind.min, IntKind.max, IntKind.bits, IntKind.signed] at hw
  unfold inB
  omega
set_option maxRecDepth 100000 in
theorem sameRun_contract (H : Type) (enc : TypeId × Value → H) (W : World) (base : Nat) (args : Array Value) (ds gs : List (DataW H)) (before : List MemPlace)
    (hval : ∀ (j : Nat) t v, Tryz.f9.params[j]? = some t → args[j]? = some v → Value.okWide Tryz.prog W .any base t v)
    (hW : DataW.Whole enc Tryz.prog Tryz.f9.params.toList Rows.sameRunSpec.vars false W args.toList ds gs before)
    (hsz : (DataW.weightsEach Tryz.prog (Tryz.f9.params.toList ++ Rows.sameRunSpec.plain.varTypes Tryz.prog) (ds ++ gs)).all (· ≤ reachBytes) = true)
    (hL : laidMetH Tryz.prog Rows.sameRunRow.laid W) (hS : W.ShapedOpen Tryz.prog) :
    Calls Tryz.prog 9 args W fun e W' => ∃ v, e = .returned v ∧ Rows.sameRunSpec.post enc Tryz.prog Tryz.f9 false true false false W args v W' := by
  have hE := env_of hL hS
  have hW' := hW
  obtain ⟨p, q, hA0, hV, rfl, _, _⟩ := hW
  have hA : DataW.TrodAll enc Tryz.prog W 0 (fun _ => true) true Tryz.f9.params.toList args.toList ds p := hA0
  rw [Tryz.params9] at hA hval hsz
  obtain ⟨v0, v1, v2, d0, d1, d2, p0, p1, p2, rfl, rfl, rfl, h0, h1, h2⟩ := trodAll_three hA
  obtain ⟨rfl, rfl⟩ := trodVars_none hV
  obtain ⟨a0, len, cap, rfl⟩ := okWide_slice Tryz.underlying43 (hval 0 43 v0 rfl rfl)
  obtain ⟨s0, slen, scap, rfl⟩ := okWide_slice Tryz.underlying49 (hval 1 49 v1 rfl rfl)
  obtain ⟨most, rfl, hmost⟩ := int_argR (hval 2 3 v2 rfl rfl) h2
  have h0k := h0
  have h1k := h1
  obtain ⟨fuel, hf⟩ := h0
  obtain ⟨fuel1, hf1⟩ := h1
  clear hA0
  simp only [List.append_nil] at hW'
  have hlt0 : ∀ x ∈ p0, x.block < W.heap.size := fun x hx => by simpa using hW'.lt x (by simp [hx])
  have hlt1 : ∀ x ∈ p1, x.block < W.heap.size := fun x hx => by simpa using hW'.lt x (by simp [hx])
  have hlt2 : ∀ x ∈ p2, x.block < W.heap.size := fun x hx => by simpa using hW'.lt x (by simp [hx])
  have hsz' : (DataW.weightsEach Tryz.prog [43, 49, 3] [d0, d1, d2]).all (· ≤ reachBytes) = true := hsz
  have hf' : DataW.trod enc Tryz.prog W 0 (fun _ => true) true fuel 43 [.slice a0 len cap] = some (d0, p0) := hf
  have hf1' : DataW.trod enc Tryz.prog W 0 (fun _ => true) true fuel1 49 [.slice s0 slen scap] = some (d1, p1) := hf1
  obtain ⟨hsl, hsd⟩ := seeds_on hf1' hsz'
  refine (samerun_walk a0 len cap s0 slen scap most W hE hmost hsl hsd (prog_on hE hf' hsz')).mono fun e W' ⟨he, hB⟩ => ?_
  subst he
  refine ⟨_, rfl, _, _, _, [], p0 ++ (p1 ++ p2), [], hW', ?_, ?_, rfl, hB.frame _, fun h => by cases h⟩
  · exact trodAll_mk1 (shut_bool Tryz.underlying4 _)
  · exact trodAll_mk3 (Below.trod laidOut (by kernel_rfl) (of_decide_eq_true (by kernel_rfl)) h0k hB hlt0) (Below.trod laidOut (by kernel_rfl) (of_decide_eq_true (by kernel_rfl)) h1k hB hlt1) (Below.trod laidOut (by kernel_rfl) (of_decide_eq_true (by kernel_rfl)) h2 hB hlt2)
theorem sameRun_reads (os : Os) {H : Type} (enc : TypeId × Value → H) : ∃ places, DataW.whole enc Tryz.prog ((World.laidAll Tryz.prog os Rows.sameRunRow.laid).forCall (fun _ _ => 0) ⟨#[], #[.slice none 0 0, .slice none 0 0, .int .i64 0], []⟩).memory Tryz.f9.params.toList Rows.sameRunSpec.vars false #[Value.slice none 0 0, Value.slice none 0 0, Value.int .i64 0].toList 8 = some ([.nil, .nil, .lit (.int .i64 0)], [], places) :=
  ⟨[], by kernel_rfl⟩
set_option maxRecDepth 100000 in
theorem sameRun_witness (os : Os) (H : Type) (enc : TypeId × Value → H) :
    ∃ (w : World) (tape : Tape) (i : Input), w.os = os ∧ (w.forCall tape i).Shaped Tryz.checked.prog ∧ i.vars = [] ∧ Input.okWide Tryz.checked.prog (w.forCall tape i) .any w.heap.size 9 i ∧
      (OpenSpec.ofChange Rows.sameRunSpec).preRow enc Tryz.checked.prog Tryz.f9 Rows.sameRunRow.domain false Rows.sameRunRow.laid (w.forCall tape i).memory i.args ∧ ({} : Assume).holds Tryz.checked.prog (lone (Frame.enter Tryz.checked.prog 9 i.args .normal) [] (w.forCall tape i)) := by
  obtain ⟨places, hx⟩ := sameRun_reads os enc
  have hok : Input.okWideB Tryz.checked.prog ((World.laidAll Tryz.prog os Rows.sameRunRow.laid).forCall (fun _ _ => 0) ⟨#[], #[.slice none 0 0, .slice none 0 0, .int .i64 0], []⟩) 9 ⟨#[], #[.slice none 0 0, .slice none 0 0, .int .i64 0], []⟩ = true := by kernel_rfl
  refine ⟨World.laidAll Tryz.prog os Rows.sameRunRow.laid, fun _ _ => 0, ⟨#[], #[.slice none 0 0, .slice none 0 0, .int .i64 0], []⟩, World.laidAll_os _ _ _, World.shaped_of_ZipB (by kernel_rfl) (by kernel_rfl), (Input.okWide_of_okWideB (base := 0) hok).1, (Input.okWide_of_okWideB hok).2, ?_, ?_⟩
  · exact OpenSpec.preRow_of_cond 8 hx (by kernel_rfl) (fun k hk => by cases hk) (by kernel_rfl)
      (by rw [MakeChecks.laidMetH_plain _ _ _ (by kernel_rfl)]; exact laidMet_laidAll _ (by kernel_rfl) (by kernel_rfl))
  · simp only [Assume.holds]
    exact ⟨by simp, by simp, by simp, by simp, by simp⟩
set_option maxRecDepth 100000 in
theorem sameRun_lifted (os : Os) (started : os.Started) (H : Type) (enc : TypeId × Value → H) (F : Stop.Interp) :
    ReturnsInHanded {} Tryz.checked os 9 .any ((OpenSpec.ofChange Rows.sameRunSpec).preRow enc Tryz.prog Tryz.f9 Rows.sameRunRow.domain false Rows.sameRunRow.laid) (((OpenSpec.ofChange Rows.sameRunSpec).at F).post enc Tryz.prog Tryz.f9 false true false false) := by
  refine returnsInHanded_of_row (C := Tryz.checked) (s := OpenSpec.ofChange Rows.sameRunSpec) own started (by kernel_rfl) Tryz.func9 (sameRun_witness os H enc) ?_
  intro W base args ds gs before hval hW _ _ hsz hL hS _
  exact sameRun_contract H enc W base args ds gs before hval hW hsz hL hS
theorem sameRun_named : Tryz.pinned.checked.prog.funcNamed Rows.sameRunRow.func = some 9 := by kernel_rfl
set_option maxHeartbeats 20000000 in
theorem sameRun_closed : joinedFacts Tryz.pinned.checked.prog 9 Tryz.f9 (OpenSpec.ofChange Rows.sameRunSpec).bare Rows.sameRunRow = true := by
  unfold joinedFacts
  repeat' (with_reducible refine Bool.and_eq_true_iff.2 ⟨?_, ?_⟩)
  all_goals (as_aux_lemma => kernel_rfl)
theorem sameRun_inst : Tryz.f9.isInstance Tryz.pinned.checked.prog Rows.sameRunRow.origin Rows.sameRunRow.targs := of_decide_eq_true (by kernel_rfl)
theorem sameRun_wrap : Tryz.f9.isWrapper Tryz.pinned.checked.prog Rows.sameRunRow.wrapper Rows.sameRunRow.mainSum := by
  unfold Func.isWrapper; first | (rw [if_pos (by decide +kernel)]; kernel_rfl) | (rw [if_neg (by decide +kernel)]; exact ⟨rfl, rfl⟩)
theorem sameRun_said : Rows.SameRunSaid :=
  OpenClaim.holds_of_cond 9 Tryz.f9 rfl rfl rfl rfl rfl rfl rfl ⟨rfl, rfl, rfl, rfl, rfl⟩ rfl rfl rfl rfl rfl sameRun_named Tryz.func9 sameRun_closed sameRun_inst sameRun_wrap
    (fun os started H enc _ F => by rw [OpenClaim.pre_eq_preRow]; exact sameRun_lifted os started H enc F)
theorem sameRun_plain (f : FuncId) (fn : Func) (hf : Tryz.pinned.checked.prog.funcNamed "pinion/pinionkeep.SameRun" = some f) (hfn : Tryz.pinned.checked.prog.funcs[f]? = some fn) :
    true = Tryz.pinned.checked.prog.looks [] ∧ ∀ (j : Nat) t, fn.params[j]? = some t → Tryz.pinned.checked.prog.wantsStandIn t = false := by
  obtain rfl : f = 9 := Option.some.inj ((show Tryz.prog.funcNamed "pinion/pinionkeep.SameRun" = some 9 by kernel_rfl).symm.trans hf) |>.symm
  obtain rfl : fn = Tryz.f9 := (Option.some.inj (Tryz.func9.symm.trans hfn)).symm
  refine ⟨by kernel_rfl, fun j t ht => ?_⟩
  rw [Tryz.params9] at ht
  have hm : t = 43 ∨ t = 49 ∨ t = 3 := by
    have := Array.mem_of_getElem? ht
    simpa using this
  rcases hm with rfl | rfl | rfl
  · exact (show Tryz.prog.wantsStandIn 43 = false by kernel_rfl)
  · exact (show Tryz.prog.wantsStandIn 49 = false by kernel_rfl)
  · exact (show Tryz.prog.wantsStandIn 3 = false by kernel_rfl)
theorem sameRun_card : Rows.SameRunCardSaid :=
  Claim7.holds_tied_plain_at .later [] _ _ _ _ sameRun_said (fun _ h => by cases h) (by kernel_rfl) (fun _ h => by cases h) sameRun_row_tie rfl ⟨rfl, rfl⟩ (by kernel_rfl) rfl sameRun_plain (by kernel_rfl)
end Go.Proofs.YtbmcofdodfcnnaaGreatDoor
