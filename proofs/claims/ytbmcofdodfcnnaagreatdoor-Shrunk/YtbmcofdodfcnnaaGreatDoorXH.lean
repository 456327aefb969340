import Derived.Test.YtbmcofdodfcnnaaGreatDoorGQB
import Derived.Test.YtbmcofdodfcnnaaGreatDoorGXF
import Derived.Test.YtbmcofdodfcnnaaGreatDoorGPR
import Derived.Test.YtbmcofdodfcnnaaGreatDoorGAW
import Derived.Deep.RegionHeld3
import Derived.Deep.DeepCutAuto
import Derived.Deep.CutRange
namespace Go.Proofs.YtbmcofdodfcnnaaGreatDoor
open Go.RowKit Go.Shelf
attribute [local go_sem] Oper.semAt_some
theorem short_rng {i : Pn.Ins} (h : (Pn.shortP i).2 = 0) : 0 ≤ (Pn.shortP i).1 ∧ (Pn.shortP i).1 < 65536 := by
  obtain ⟨_, e2, e3, _, _⟩ := Pn.exp_short (i := i) (h := (Pn.shortP i).1) (by rw [← h])
  exact ⟨by omega, by omega⟩
def begV (pre : List IT) : List Value := (List.range 4096).map fun k => .bool (pre.any fun x => x.1 == k)
theorem begV_len (pre : List IT) : (begV pre).length = 4096 := by simp [begV]
theorem begV_at (pre : List IT) (k : Nat) (hk : k < 4096) : (begV pre)[k]? = some (.bool (pre.any fun x => x.1 == k)) := by
  unfold begV
  rw [List.getElem?_map, List.getElem?_range hk]
  rfl
theorem begV_set (pre : List IT) (x : IT) (hx : x.1 < 4096) : (begV pre).set x.1 (.bool true) = begV (pre ++ [x]) := by
  refine List.ext_getElem? fun k => ?_
  rw [List.getElem?_set, begV_len]
  rcases Nat.lt_or_ge k 4096 with hk | hk
  · rw [begV_at _ k hk, begV_at _ k hk]
    by_cases e : x.1 = k
    · subst e; rw [if_pos rfl, if_pos hk]; simp
    · rw [if_neg e]
      simp [e]
  · rw [if_neg (by omega), List.getElem?_eq_none (by rw [begV_len]; exact hk), List.getElem?_eq_none (by rw [begV_len]; exact hk)]
theorem func_nil (f : Fn) (lb : Array Value) (w : World) : (binOp .eql 46 (.func f #[] lb) .nilFunc).run Tryz.prog w = .ok (.bool false) w := by
  have h : ∀ d, (Op.equalIn (d + 1) 46 (.func f #[] lb) .nilFunc).run Tryz.prog w = .ok false w := fun d => by
    simp [Op.equalIn, run_underlying Tryz.underlying46]
  have h2 := h 9999
  simp only [binOp, Op.equal, Op.maxDepth]
  simp [h2]
theorem run_none {s : List UInt8} {t : List IT} : ∀ {pre : List IT} {e : Nat}, runE s e pre = none → runE s e (pre ++ t) = none
  | [], e, h => by simp [runE] at h
  | x :: pre, e, h => by
    rw [List.cons_append, runE]
    rw [runE] at h
    split at h
    · rw [if_pos (by assumption)]; exact run_none h
    · rw [if_neg (by assumption)]
theorem frz {V : World} {b : Nat} {cs : Array Value} {ty : TypeId} (h : V.heap[b]? = some (.cells cs ty (0, 0))) (q : Nat) : V.frozen? ⟨b, q, none⟩ = false := by
  unfold World.frozen?
  rw [show ({ block := b, off := q } : Addr).block = b from rfl, h]
  simp
theorem keeps_set {V : World} {b : Nat} {cs : Array Value} {ty : TypeId} (h : V.heap[b]? = some (.cells cs ty (0, 0))) (q : Nat) (v : Value) {B : Nat} : KeepsFrom B V (V.setCell ⟨b, q, none⟩ v) := by
  refine ⟨by simp [World.setCell], fun k o hk ho hc => ?_⟩
  by_cases e : k = b
  · subst e
    rw [h] at ho
    cases ho
    simp [Obj.isCells] at hc
  · exact (Below.heap_setCell _ _ _ _ (fun e' => e e')).trans ho
theorem kpi_set {V : World} {b : Nat} {cs : Array Value} {ty : TypeId} (h : V.heap[b]? = some (.cells cs ty (0, 0))) (ht : ¬ (ty = 139 ∨ ty = 9 ∨ ty = 153)) (q : Nat) (v : Value) : KpI V (V.setCell ⟨b, q, none⟩ v) := by
  refine ⟨by simp [World.setCell], fun k cs' t fr hk htt => ?_⟩
  by_cases e : k = b
  · subst e
    rw [h] at hk
    cases hk
    exact absurd htt ht
  · exact (Below.heap_setCell _ _ _ _ (fun e' => e e')).trans hk
theorem byN_lt (L : List UInt8) (k : Nat) : 0 ≤ byN L k ∧ byN L k < 256 := by
  unfold byN
  have := (L.getD k 0).toNat_lt
  omega
theorem byN_eq (C : ByteArray) (k : Nat) (hk : k < C.size) : ((C[k]'hk).toNat : Int) = byN C.data.toList k := by
  have hl : k < C.data.toList.length := by rw [size_list]; exact hk
  have e : C.data.toList.getD k 0 = C[k]'hk := by
    rw [List.getD, List.getElem?_eq_getElem hl, ByteArray.getElem_eq_getElem_data]
    simp
  unfold byN
  rw [e]
theorem byN_wrap (C : ByteArray) (k : Nat) (hk : k < C.size) : wrap64 ((C[k]'hk).toNat : Int) = byN C.data.toList k := by
  rw [byN_eq]
  have := byN_lt C.data.toList k
  unfold wrap64
  omega
def ShI (C : ByteArray) (Be Bg Bc : Nat) (w : World) (pre : List IT) (V : World) : Prop := ∃ e : Nat, (runE C.data.toList 0 pre = some e ∧ V.heap[Be]? = some (.cells #[.int .i64 e] 3 (0, 0))) ∧ V.heap[Bg]? = some (.cells (begV pre).toArray 45 (0, 0)) ∧ V.heap[Bc]? = some (.cells #[.string C] 9 (0, 0)) ∧ V.heap[w.heap.size]? = some (.cells #[.bool false] 4 (0, 0)) ∧ Below w.heap.size w V
def ShX (C : ByteArray) (c : Code) (pre : List IT) (_ : World) : Prop := c = .ret ∧ runE C.data.toList 0 pre = none
structure ShB (C : ByteArray) (Bg Bc D : Nat) (w V : World) : Prop where
  beg : V.heap[Bg]? = some (.cells (begV (itemsL C)).toArray 45 (0, 0))
  cod : V.heap[Bc]? = some (.cells #[.string C] 9 (0, 0))
  res : V.heap[w.heap.size]? = some (.cells #[.bool false] 4 (0, 0))
  bel : Below w.heap.size w V
  dfr : V.heap[D]? = some (.deferred (some []))
theorem ShB.next {C : ByteArray} {Bg Bc D : Nat} {w V V' : World} (h : ShB C Bg Bc D w V) (hB : Below V.heap.size V V') : ShB C Bg Bc D w V' := by
  have ob : ∀ (k : Nat) (o : Obj), V.heap[k]? = some o → V'.heap[k]? = some o := fun k o h => (hB.block k (Array.getElem?_eq_some_iff.1 h).1).trans h
  exact ⟨ob _ _ h.beg, ob _ _ h.cod, ob _ _ h.res, h.bel.trans (hB.mono h.bel.size), ob _ _ h.dfr⟩
theorem ShB.cell {C : ByteArray} {Bg Bc D : Nat} {w V : World} (h : ShB C Bg Bc D w V) : V.cell? ⟨Bc, 0, none⟩ = some (.string C) := by rw [Lib.cell_of_heap h.cod]; rfl
theorem ShB.begC {C : ByteArray} {Bg Bc D : Nat} {w V : World} (h : ShB C Bg Bc D w V) (k : Nat) (hk : k < 4096) : V.cell? ⟨Bg, k, none⟩ = some (.bool ((itemsL C).any fun x => x.1 == k)) := by rw [Lib.cell_of_heap h.beg, List.getElem?_toArray, begV_at _ _ hk]
theorem byN_wrapK (C : ByteArray) (k : Nat) (hk : k < C.size) : IntKind.i64.wrap ((C[k]'hk).toNat : Int) = byN C.data.toList k := by
  rw [byN_eq]
  have := byN_lt C.data.toList k
  exact IntWalk.i64_in _ (by omega)
theorem half_arg (C : ByteArray) (k : Nat) (hk : k + 1 < C.size) : IntKind.i64.wrap (IntKind.i64.wrap ((C[k]'(by omega)).toNat : Int) + IntKind.i64.wrap (256 * IntKind.i64.wrap ((C[k + 1]'hk).toNat : Int))) = byN C.data.toList k + 256 * byN C.data.toList (k + 1) := by
  rw [byN_wrapK C k (by omega), byN_wrapK C (k + 1) hk]
  have h0 := byN_lt C.data.toList k
  have h1 := byN_lt C.data.toList (k + 1)
  rw [IntWalk.i64_in (256 * _) (by omega), IntWalk.i64_in _ (by omega)]
def z5' : List Value := [.int .i64 0, .int .i64 0, .int .i64 0, .int .i64 0, .int .i64 0]
def insC (i : Pn.Ins) : List Value := [.int .i64 i.op, .int .i64 i.rd, .int .i64 i.rs1, .int .i64 i.rs2, .int .i64 i.imm]
theorem ShB.set {C : ByteArray} {Bg Bc D b : Nat} {w V : World} (h : ShB C Bg Bc D w V) (hb : Bg ≠ b ∧ Bc ≠ b ∧ w.heap.size ≤ b ∧ w.heap.size ≠ b ∧ D ≠ b) (q : Nat) (v : Value) : ShB C Bg Bc D w (V.setCell ⟨b, q, none⟩ v) := by
  have ob : ∀ j, j ≠ b → (V.setCell ⟨b, q, none⟩ v).heap[j]? = V.heap[j]? := fun j hj => Below.heap_setCell _ _ _ _ (fun e => hj e)
  exact ⟨(ob _ hb.1).trans h.beg, (ob _ hb.2.1).trans h.cod, (ob _ hb.2.2.2.1).trans h.res, h.bel.setCell hb.2.2.1 _, (ob _ hb.2.2.2.2).trans h.dfr⟩
theorem set5 {b : Nat} {a0 a1 a2 a3 a4 : Value} {V : World} (h : CellsAt b [a0, a1, a2, a3, a4] V) (i : Pn.Ins) : CellsAt b (insC i) (((((V.setCell ⟨b, 0, none⟩ (.int .i64 i.op)).setCell ⟨b, 1, none⟩ (.int .i64 i.rd)).setCell ⟨b, 2, none⟩ (.int .i64 i.rs1)).setCell ⟨b, 3, none⟩ (.int .i64 i.rs2)).setCell ⟨b, 4, none⟩ (.int .i64 i.imm)) := by
  obtain ⟨h1, h2, h3⟩ := h
  have y0 := h3 0 _ rfl
  have y1 := h3 1 _ rfl
  have y2 := h3 2 _ rfl
  have y3 := h3 3 _ rfl
  have y4 := h3 4 _ rfl
  refine ⟨by simpa [World.setCell] using h1, fun q => by simp [go_sem, h2], fun j v hj => ?_⟩
  rcases j with _ | _ | _ | _ | _ | j
  all_goals first
    | (simp [insC] at hj; subst hj; simp [go_sem, y0, y1, y2, y3, y4])
    | simp [insC] at hj
theorem wrap_id (x : Int) (h : -9223372036854775808 ≤ x ∧ x < 9223372036854775808) : wrap64 x = x := by unfold wrap64; omega
theorem word_arg (C : ByteArray) (k : Nat) (hk : k + 4 ≤ C.size) : wrap64 (wrap64 (wrap64 (wrap64 (byN C.data.toList k) + wrap64 (256 * byN C.data.toList (k + 1))) + wrap64 (65536 * wrap64 ((C[k + 2]'(by omega)).toNat : Int))) + wrap64 (16777216 * wrap64 ((C[k + 3]'(by omega)).toNat : Int))) =
    byN C.data.toList k + 256 * byN C.data.toList (k + 1) + 65536 * byN C.data.toList (k + 2) + 16777216 * byN C.data.toList (k + 3) := by
  have h0 := byN_lt C.data.toList k
  have h1 := byN_lt C.data.toList (k + 1)
  have h2 := byN_lt C.data.toList (k + 2)
  have h3 := byN_lt C.data.toList (k + 3)
  rw [byN_wrap C (k + 2) (by omega), byN_wrap C (k + 3) (by omega), wrap_id (byN C.data.toList k) (by omega), wrap_id (256 * _) (by omega), wrap_id (byN C.data.toList k + _) (by omega), wrap_id (65536 * _) (by omega), wrap_id (_ + 65536 * _) (by omega), wrap_id (16777216 * _) (by omega), wrap_id _ (by omega)]
theorem zero_beg : Tryz.zeroCells45 = (begV []).toArray := by kernel_rfl
set_option maxRecDepth 100000 in
set_option maxHeartbeats 8000000 in
theorem shrunk_walk (a0 : Option Addr) (len cap : Nat) (short : Bool) (w : World) (hE : Env w)
    (hP : ∀ w1, Below w.heap.size w w1 → Calls Tryz.prog 22 #[.slice a0 len cap] w1 fun e w2 => ∃ s : ByteArray, e = .returned (.string s) ∧ (∃ C : ByteArray, asmA s short = (C.data.toList, 0, 0) ∧ ShrF C) ∧ Below w1.heap.size w1 w2) :
    Calls Tryz.prog 8 #[.slice a0 len cap, .bool short] w fun e w' => e = .returned (.bool true) ∧ Below w.heap.size w w' := by
  have HE := hid hE
  have HPR := hid hP
  clear hE hP
  refine (callsIn_wide (n := 8)).1 ?_
  refine callsIn_of_wp_marks Tryz.func8 rfl trivial ?_ rfl
  simp only [Tryz.ntmps8, List.size_toArray, List.length_cons, List.length_nil, Nat.reduceAdd, Nat.reduceSub, Array.replicate_succ, Array.replicate_zero, List.push_toArray, List.append_toArray, List.nil_append, List.cons_append]
  gi_wp2_with fail
  have HB0 : Hid (Below w.heap.size w (w.alloc (.cells #[.bool false] 4))) := hid ((Below.refl _ _).alloc (Nat.le_refl _) _)
  have HR0 : Hid ((w.alloc (.cells #[.bool false] 4)).heap[w.heap.size]? = some (.cells #[.bool false] 4 (0, 0))) := hid (heap_alloc_new w _)
  generalize w.alloc (.cells #[.bool false] 4) = W0 at *
  refine ⟨trivial, (callsIn_wide.2 (awake_is _ (HE.out.below HB0.out HE.out.1))).mono ?_⟩
  rintro e w1 ⟨rfl, hB1⟩
  have HR1 := hid ((hB1.block _ (Array.getElem?_eq_some_iff.1 HR0.out).1).trans HR0.out)
  have HB1 := hid (HB0.out.trans (hB1.mono HB0.out.size))
  clear hB1 HR0 HB0
  gi_wp2_with fail
  refine ⟨trivial, (callsIn_wide.2 (HPR.out w1 HB1.out)).mono ?_⟩
  rintro e w2 ⟨s, rfl, ⟨C, hC, hF⟩, hB2⟩
  have HR2 := hid ((hB2.block _ (Array.getElem?_eq_some_iff.1 HR1.out).1).trans HR1.out)
  have HB2 := hid (HB1.out.trans (hB2.mono HB1.out.size))
  have HF := hid hF
  have HA := hid (fun w' h => passemble_any s short w' h)
  rw [hC] at HA
  simp only [ba_eta] at HA
  clear hB2 HR1 HB1 hF hC HPR
  gi_wp2_with fail
  refine ⟨trivial, (callsIn_wide.2 (HA.out w2 (HE.out.below HB2.out HE.out.1))).mono ?_⟩
  rintro e w3 ⟨rfl, hB3⟩
  have HR3 := hid ((hB3.block _ (Array.getElem?_eq_some_iff.1 HR2.out).1).trans HR2.out)
  have HB3 := hid (HB2.out.trans (hB3.mono HB2.out.size))
  clear hB3 HR2 HB2 HA
  gi_wp2_with fail
  obtain ⟨W4, hW4⟩ : ∃ W4, (((w3.alloc (.cells #[.string C] 9)).alloc (.cells #[.int .i64 0, .int .i64 0] 39)).alloc (.cells Tryz.zeroCells45 45)).alloc (.cells #[.int .i64 0] 3) = W4 := ⟨_, rfl⟩
  have HS4 : W4.heap.size = w3.heap.size + 4 := by rw [← hW4]; simp
  have B1 : Below w3.heap.size w3 (w3.alloc (.cells #[.string C] 9)) := (Below.refl _ _).alloc (Nat.le_refl _) _
  have n1 : (w3.alloc (.cells #[.string C] 9)).heap[w3.heap.size]? = some (.cells #[.string C] 9 (0, 0)) := heap_alloc_new w3 _
  have s1 : (w3.alloc (.cells #[.string C] 9)).heap.size = w3.heap.size + 1 := by simp
  generalize w3.alloc (.cells #[.string C] 9) = v1 at *
  have B2 : Below v1.heap.size v1 (v1.alloc (.cells #[.int .i64 0, .int .i64 0] 39)) := (Below.refl _ _).alloc (Nat.le_refl _) _
  have s2 : (v1.alloc (.cells #[.int .i64 0, .int .i64 0] 39)).heap.size = v1.heap.size + 1 := by simp
  generalize v1.alloc (.cells #[.int .i64 0, .int .i64 0] 39) = v2 at *
  have B3 : Below v2.heap.size v2 (v2.alloc (.cells Tryz.zeroCells45 45)) := (Below.refl _ _).alloc (Nat.le_refl _) _
  have n3 : (v2.alloc (.cells Tryz.zeroCells45 45)).heap[v2.heap.size]? = some (.cells (begV []).toArray 45 (0, 0)) := by rw [← zero_beg]; exact heap_alloc_new v2 _
  have s3 : (v2.alloc (.cells Tryz.zeroCells45 45)).heap.size = v2.heap.size + 1 := by simp
  generalize v2.alloc (.cells Tryz.zeroCells45 45) = v3 at *
  have B4 : Below v3.heap.size v3 (v3.alloc (.cells #[.int .i64 0] 3)) := (Below.refl _ _).alloc (Nat.le_refl _) _
  have n4 : (v3.alloc (.cells #[.int .i64 0] 3)).heap[v3.heap.size]? = some (.cells #[.int .i64 0] 3 (0, 0)) := heap_alloc_new v3 _
  rw [hW4] at B4 n4 ⊢
  have e2 : v2.heap.size = w3.heap.size + 1 + 1 := by omega
  have e3 : v3.heap.size = w3.heap.size + 1 + 1 + 1 := by omega
  have HRes : Hid (W4.heap[w.heap.size]? = some (.cells #[.bool false] 4 (0, 0))) := hid (by
    have hl := (Array.getElem?_eq_some_iff.1 HR3.out).1
    rw [B4.block _ (by omega), B3.block _ (by omega), B2.block _ (by omega), B1.block _ (by omega)]
    exact HR3.out)
  have HCod : Hid (W4.heap[w3.heap.size]? = some (.cells #[.string C] 9 (0, 0))) := hid (by
    rw [B4.block _ (by omega), B3.block _ (by omega), B2.block _ (by omega)]
    exact n1)
  have HBeg : Hid (W4.heap[w3.heap.size + 1 + 1]? = some (.cells (begV []).toArray 45 (0, 0))) := hid (by
    rw [B4.block _ (by omega), ← e2]
    exact n3)
  have HEnd : Hid (W4.heap[w3.heap.size + 1 + 1 + 1]? = some (.cells #[.int .i64 0] 3 (0, 0))) := hid (by
    rw [← e3]
    exact n4)
  have HB4 : Hid (Below w.heap.size w W4) := hid (by
    have hs := HB3.out.size
    exact HB3.out.trans ((B1.mono hs).trans ((B2.mono (by omega)).trans ((B3.mono (by omega)).trans (B4.mono (by omega))))))
  have HLT : w.heap.size < w3.heap.size := (Array.getElem?_eq_some_iff.1 HR3.out).1
  clear B1 B2 B3 B4 n1 n3 n4 s1 s2 s3 hW4 HR3 HB3
  clear e2 e3
  refine ⟨trivial, (pitems_in 7 (by omega) C W4).mono ?_⟩
  rintro e w5 ⟨rfl, rfl⟩
  gi_wp2_with fail
  rw [func_nil]
  gi_wp2_with fail
  have hbi : (W4.alloc (.cells #[.string C] 9)).heap[w3.heap.size + 4]? = some (.cells #[.string C] 9 (0, 0)) := by
    have := heap_alloc_new W4 (.cells #[.string C] 9)
    rwa [HS4] at this
  have hsz5 : (W4.alloc (.cells #[.string C] 9)).heap.size = w3.heap.size + 5 := by rw [World.size_alloc, HS4]
  have B5 : Below W4.heap.size W4 (W4.alloc (.cells #[.string C] 9)) := (Below.refl _ _).alloc (Nat.le_refl _) _
  have HRes := hid ((B5.block _ (by omega)).trans HRes.out)
  have HCod := hid ((B5.block _ (by omega)).trans HCod.out)
  have HBeg := hid ((B5.block _ (by omega)).trans HBeg.out)
  have HEnd := hid ((B5.block _ (by omega)).trans HEnd.out)
  have HB5 := hid (HB4.out.trans (B5.mono HB4.out.size))
  generalize W4.alloc (.cells #[.string C] 9) = W5 at *
  clear HB4 B5
  generalize hBi : w3.heap.size + 4 = Bi at *
  generalize hBe : w3.heap.size + 1 + 1 + 1 = Be at *
  generalize hBg : w3.heap.size + 1 + 1 = Bg at *
  generalize hBf : w3.heap.size + 1 = Bf at *
  generalize hBc : w3.heap.size = Bc at *
  have hlen := HF.out.len
  rw [size_list] at hlen
  refine wpIn_loopO (α := IT) rfl (by omega) (gf := 83) (lb := #[.pointer (some ⟨Bi, 0, none⟩)]) rfl trivial (enters_of Tryz.func83 (by kernel_rfl) rfl)
    (items_seq (8 - 1) (by omega) Bi C (by omega) W5 hbi) kpi_t kpi_b (Below.refl _ _) (fun _ => rfl)
    (ShI C Be Bg Bc w)
    (ShX C)
    ?oI (fun _ _ _ _ _ h _ _ => h) ⟨0, ⟨rfl, HEnd.out⟩, HBeg.out, HCod.out, HRes.out, HB5.out⟩
    (fun x a' V => ∃ Bx, V.heap[Bx]? = some (.cells #[.int .i64 x.2.op, .int .i64 x.2.rd, .int .i64 x.2.rs1, .int .i64 x.2.rs2, .int .i64 x.2.imm] 26 (0, 0)) ∧ a' = { tmps := #[.slice a0 len cap, .bool short, undef, undef, .pointer (some ⟨w.heap.size, 0, none⟩), .bool true, .string s, .pointer (some ⟨Bc, 0, none⟩), .pointer (some ⟨Bf, 0, none⟩), .pointer (some ⟨Bg, 0, none⟩), .pointer (some ⟨Be, 0, none⟩), .func (.func 83) #[] #[.pointer (some ⟨Bi, 0, none⟩)], .int .i64 x.1, .pointer (some ⟨Bx, 0, none⟩), undef, undef, undef, undef, undef, undef, undef, undef, undef, undef, .bool true, .slice a0 len cap, .string s, .tuple #[.string C, .agg #[.int .i64 0, .int .i64 0]], .string s, .bool short, .tuple #[.string C, .agg #[.int .i64 0, .int .i64 0]], .string C, .agg #[.int .i64 0, .int .i64 0], .pointer (some ⟨Bf, 0, none⟩), .int .i64 0, .bool false, .string C, .func (.func 83) #[] #[.pointer (some ⟨Bi, 0, none⟩)], .func (.func 83) #[] #[.pointer (some ⟨Bi, 0, none⟩)], .bool false, .func (.func 83) #[] #[.pointer (some ⟨Bi, 0, none⟩)], .int .i64 x.1, .agg #[.int .i64 x.2.op, .int .i64 x.2.rd, .int .i64 x.2.rs1, .int .i64 x.2.rs2, .int .i64 x.2.imm], undef, undef, undef, undef, undef, undef, undef, undef, undef, undef, undef, undef, undef, undef, undef, undef, undef, undef, undef, undef, undef, undef, undef, undef, undef, undef, undef, undef, undef, undef, undef, undef, undef, undef, undef, undef, undef, undef, undef, undef, undef, undef, undef, undef, undef, undef, undef, undef, undef, undef, undef, undef, undef, undef, undef, undef, undef, undef, undef, undef, undef, undef, undef, undef, undef, undef, undef, undef, undef, undef, undef, undef, undef, undef, undef, undef, undef, undef, undef, undef, undef, undef, undef, undef, undef, undef, undef, undef, undef, undef, undef, undef, undef, undef, undef, undef, undef, undef, undef, undef, undef, undef, undef, undef, undef, undef, undef, undef, undef, undef, undef, undef, undef, undef, undef, undef, undef, undef, undef, undef, undef, undef, undef, undef, undef, undef, undef, undef, undef, undef, undef, undef, undef, undef, undef, undef, undef, undef, undef, undef, undef, undef, undef, undef, undef, undef, undef, undef, undef, undef, undef, undef], defers := [] })
    ?oA ?assign ?body ?done ?stop
  case oI =>
    rintro pre A V row ⟨e, ⟨h1, h2⟩, h3, h4, h5, h6⟩ hg hr
    have ob : ∀ (k : Nat) (o : Obj), k < W5.heap.size → A.heap[k]? = some o → V.heap[k]? = some o := fun k o hk h => own_block (β := Unit) (B := W5.heap.size) hk () A V row h hg hr
    exact ⟨e, ⟨h1, ob _ _ (by omega) h2⟩, ob _ _ (by omega) h3, ob _ _ (by omega) h4, ob _ _ (by omega) h5, ownFrom_below (β := Unit) (Nat.le_refl _) (by omega) () A V row h6 hg hr⟩
  case oA =>
    intro x a' _ X Y row hs hg hr
    obtain ⟨Bx, h1, h3⟩ := hs
    refine ⟨Bx, (hg.block Bx (Array.getElem?_eq_some_iff.1 h1).1 (fun e => ?_)).trans h1, h3⟩
    obtain ⟨_, o, ho, hc⟩ := hr Bx e.symm
    rw [h1] at ho
    cases ho
    simp [Obj.isCells] at hc
  case assign =>
    rintro l2 pre ⟨k, ⟨cop, crd, crs1, crs2, cimm⟩⟩ V K hI hK
    have HI := hid hI
    have HK := hid hK
    clear hI hK
    unfold itE
    gi_wp2
    have hBW : Below V.heap.size V (V.alloc (.cells #[.int .i64 cop, .int .i64 crd, .int .i64 crs1, .int .i64 crs2, .int .i64 cimm] 26)) := (Below.refl _ _).alloc (Nat.le_refl _) _
    refine HK.out _ _ ((KeepsOthers.alloc _ _).from _) (kpi_below hBW) ?_ ⟨V.heap.size, heap_alloc_new V _, rfl⟩
    obtain ⟨e, ⟨h1, h2⟩, h3, h4, h5, h6⟩ := HI.out
    have ob : ∀ (k : Nat) (o : Obj), V.heap[k]? = some o → (V.alloc (.cells #[.int .i64 cop, .int .i64 crd, .int .i64 crs1, .int .i64 crs2, .int .i64 cimm] 26)).heap[k]? = some o := fun k o h => (hBW.block k (Array.getElem?_eq_some_iff.1 h).1).trans h
    exact ⟨e, ⟨h1, ob _ _ h2⟩, ob _ _ h3, ob _ _ h4, ob _ _ h5, h6.trans (hBW.mono h6.size)⟩
  case body =>
    rintro l2 pre ⟨k, ⟨cop, crd, crs1, crs2, cimm⟩⟩ a' V ⟨e, ⟨h1, h2⟩, h3, h4, h5, h6⟩ ⟨Bx, hBx, rfl⟩ hlt
    have HRE := hid (runE_snoc C.data.toList (k, ⟨cop, crd, crs1, crs2, cimm⟩) pre 0)
    rw [h1] at HRE
    simp only [Option.bind_some] at HRE
    simp only at hBx
    have ce : V.cell? ⟨Be, 0, none⟩ = some (.int .i64 e) := by rw [Lib.cell_of_heap h2]; rfl
    have HV := hid (And.intro h2 (And.intro h3 (And.intro h4 (And.intro h5 (And.intro h6 hBx)))))
    have HNU := hid (And.intro hBe (And.intro hBg (And.intro hBf (And.intro hBi (And.intro hsz5 HLT)))))
    clear h1 h2 h3 h4 h5 h6 hBx HE hBe hBg hBf hBi hBc hsz5 hbi HLT hlt HS4 hlen
    by_cases hgo : k = e ∧ k < 4096
    · obtain ⟨rfl, hk4⟩ := hgo
      have HNX : Hid (runE C.data.toList 0 (pre ++ [(k, ⟨cop, crd, crs1, crs2, cimm⟩)]) = some (nextE C.data.toList (k, ⟨cop, crd, crs1, crs2, cimm⟩))) := hid (by rw [HRE.out, if_pos ⟨rfl, hk4⟩])
      have hki : ¬ (4096 : Int) ≤ k := by omega
      have hki2 : (k : Int) < 4096 := by omega
      have wa : IntKind.i64.wrap ((k : Int) + 4) = (k : Int) + 4 := IntWalk.i64_in _ (by omega)
      have wb : IntKind.i64.wrap ((k : Int) + 2) = (k : Int) + 2 := IntWalk.i64_in _ (by omega)
      have wc : IntKind.i64.wrap ((k : Int) + 1) = (k : Int) + 1 := IntWalk.i64_in _ (by omega)
      have fg := frz HV.out.2.1 k
      have fe := frz HV.out.1 0
      obtain ⟨hVe, hVg, hVc, hVr, hVB, hVx⟩ := HV.out
      obtain ⟨n1, n2, n3, n4, n5, n6⟩ := HNU.out
      have hxl := (Array.getElem?_eq_some_iff.1 hVx).1
      have hxg : Bx ≠ Bg := fun e => by subst e; rw [hVg] at hVx; simp at hVx
      have hxe : Bx ≠ Be := fun e => by subst e; rw [hVe] at hVx; simp at hVx
      have cg : V.cell? ⟨Bg, k, none⟩ = some (.bool (pre.any fun x => x.1 == k)) := by rw [Lib.cell_of_heap hVg, List.getElem?_toArray, begV_at _ _ hk4]
      have o1 : ∀ j, j ≠ Bg → (V.setCell ⟨Bg, k, none⟩ (.bool true)).heap[j]? = V.heap[j]? := fun j hj => Below.heap_setCell _ _ _ _ (fun e => hj e)
      have g1 : (V.setCell ⟨Bg, k, none⟩ (.bool true)).heap[Bg]? = some (.cells (begV (pre ++ [(k, ⟨cop, crd, crs1, crs2, cimm⟩)])).toArray 45 (0, 0)) := by
        rw [heap_setCell_same V Bg k _ 45 _ hVg, ← begV_set pre (k, ⟨cop, crd, crs1, crs2, cimm⟩) hk4]
        simp
      have c1 : (V.setCell ⟨Bg, k, none⟩ (.bool true)).cell? ⟨Be, 0, none⟩ = some (.int .i64 k) := by rw [Lib.cell_of_heap ((o1 Be (by omega)).trans hVe)]; rfl
      have f1 := frz ((o1 Be (by omega)).trans hVe) 0
      have g2 := heap_setCell_same (V.setCell ⟨Bg, k, none⟩ (.bool true)) Be 0 _ 3 (.int .i64 ((k : Int) + 4)) ((o1 Be (by omega)).trans hVe)
      have o2 : ∀ j, j ≠ Be → ((V.setCell ⟨Bg, k, none⟩ (.bool true)).setCell ⟨Be, 0, none⟩ (.int .i64 ((k : Int) + 4))).heap[j]? = (V.setCell ⟨Bg, k, none⟩ (.bool true)).heap[j]? := fun j hj => Below.heap_setCell _ _ _ _ (fun e => hj e)
      have K1 : KeepsFrom W5.heap.size V (V.setCell ⟨Bg, k, none⟩ (.bool true)) := keeps_set hVg _ _
      have K2 : KeepsFrom W5.heap.size (V.setCell ⟨Bg, k, none⟩ (.bool true)) ((V.setCell ⟨Bg, k, none⟩ (.bool true)).setCell ⟨Be, 0, none⟩ (.int .i64 ((k : Int) + 4))) := keeps_set ((o1 Be (by omega)).trans hVe) _ _
      have P1 : KpI V (V.setCell ⟨Bg, k, none⟩ (.bool true)) := kpi_set hVg (by decide) _ _
      have P2 : KpI (V.setCell ⟨Bg, k, none⟩ (.bool true)) ((V.setCell ⟨Bg, k, none⟩ (.bool true)).setCell ⟨Be, 0, none⟩ (.int .i64 ((k : Int) + 4))) := kpi_set ((o1 Be (by omega)).trans hVe) (by decide) _ _
      have HBW : Below w.heap.size w ((V.setCell ⟨Bg, k, none⟩ (.bool true)).setCell ⟨Be, 0, none⟩ (.int .i64 ((k : Int) + 4))) := (hVB.setCell (by show w.heap.size ≤ Bg; omega) _).setCell (by show w.heap.size ≤ Be; omega) _
      have x2 := ((o2 Bx hxe).trans (o1 Bx hxg)).trans hVx
      have cell : ∀ q v, (#[.int .i64 cop, .int .i64 crd, .int .i64 crs1, .int .i64 crs2, .int .i64 cimm] : Array Value)[q]? = some v → ((V.setCell ⟨Bg, k, none⟩ (.bool true)).setCell ⟨Be, 0, none⟩ (.int .i64 ((k : Int) + 4))).cell? ⟨Bx, q, none⟩ = some v := fun q v h => by
        rw [Lib.cell_of_heap x2]; exact h
      have y0 := cell 0 _ rfl
      have y1 := cell 1 _ rfl
      have y2 := cell 2 _ rfl
      have y3 := cell 3 _ rfl
      have y4 := cell 4 _ rfl
      have HW2 : Hid (∃ W2, W2 = ((V.setCell ⟨Bg, k, none⟩ (.bool true)).setCell ⟨Be, 0, none⟩ (.int .i64 ((k : Int) + 4))) ∧ W2.heap[Be]? = some (.cells #[.int .i64 ((k : Int) + 4)] 3 (0, 0)) ∧ W2.heap[Bg]? = some (.cells (begV (pre ++ [(k, ⟨cop, crd, crs1, crs2, cimm⟩)])).toArray 45 (0, 0)) ∧ W2.heap[Bc]? = some (.cells #[.string C] 9 (0, 0)) ∧ W2.heap[w.heap.size]? = some (.cells #[.bool false] 4 (0, 0)) ∧ Below w.heap.size w W2 ∧ KeepsFrom W5.heap.size V W2 ∧ KpI V W2) :=
        hid ⟨_, rfl, by rw [g2]; rfl, (o2 Bg (by omega)).trans g1, ((o2 Bc (by omega)).trans (o1 Bc (by omega))).trans hVc, ((o2 w.heap.size (by omega)).trans (o1 w.heap.size (by omega))).trans hVr, HBW, K1.trans K2, kpi_t P1 P2⟩
      clear HRE cell x2 HBW P1 P2 K1 K2 o2 g2 g1 o1 hxl hxg hxe n1 n2 n3 n4 n5 n6 hVe hVg hVc hVr hVB hVx
      gi_wp2_with fail
      obtain ⟨W2, hW2, w2e, w2g, w2c, w2r, w2B, w2K, w2P⟩ := HW2.out
      rw [← hW2]
      have HV2 := hid (And.intro w2e (And.intro w2g (And.intro w2c (And.intro w2r (And.intro w2B (And.intro w2K w2P))))))
      clear hW2 w2e w2g w2c w2r w2B w2K w2P HW2 y0 y1 y2 y3 y4 c1 f1 fg fe cg ce HV wa
      refine ⟨trivial, (CallsIn.inRound l2 (callsIn_wide.2 (pshort_any reads_all ⟨cop, crd, crs1, crs2, cimm⟩ W2))).mono ?_⟩
      rintro e W3 ⟨rfl, hB3⟩
      obtain ⟨w2e, w2g, w2c, w2r, w2B, w2K, w2P⟩ := HV2.out
      have ob : ∀ (k : Nat) (o : Obj), W2.heap[k]? = some o → W3.heap[k]? = some o := fun k o h => (hB3.block k (Array.getElem?_eq_some_iff.1 h).1).trans h
      have HV3 := hid (And.intro (ob _ _ w2e) (And.intro (ob _ _ w2g) (And.intro (ob _ _ w2c) (And.intro (ob _ _ w2r) (And.intro (w2B.trans (hB3.mono w2B.size)) (And.intro (w2K.trans ⟨hB3.size, fun k o _ ho _ => ob k o ho⟩) (kpi_t w2P (kpi_below hB3))))))))
      have ce : W3.cell? ⟨Be, 0, none⟩ = some (.int .i64 ((k : Int) + 4)) := by rw [Lib.cell_of_heap HV3.out.1]; rfl
      have fe := frz HV3.out.1 0
      have cc : W3.cell? ⟨Bc, 0, none⟩ = some (.string C) := by rw [Lib.cell_of_heap HV3.out.2.2.1]; rfl
      clear hB3 ob w2e w2g w2c w2r w2B w2K w2P HV2
      unfold nextE at HNX
      have HRG := hid (fun h => short_rng (i := ⟨cop, crd, crs1, crs2, cimm⟩) h)
      simp only at HNX
      generalize Pn.shortP ⟨cop, crd, crs1, crs2, cimm⟩ = SH at *
      obtain ⟨h, ee⟩ := SH
      simp only at HRG HNX
      have hSz := size_list C
      by_cases hee : ee = 0
      · subst hee
        obtain ⟨r1, r2⟩ := HRG.out rfl
        have ht : h.tmod 256 = h % 256 := Int.tmod_eq_emod_of_nonneg r1
        have hd : h.tdiv 256 = h / 256 := Int.tdiv_eq_ediv_of_nonneg r1
        have hw : wrap64 (h / 256) = h / 256 := by unfold wrap64; omega
        clear r1 r2 HRG
        by_cases hk2 : k + 2 ≤ C.size
        · have hk2i : (k : Int) + 2 ≤ C.size := by omega
          have hk3 : (k : Int) < C.size := by omega
          have hk4 : (k : Int) + 1 < C.size := by omega
          have hk5 : (0 : Int) ≤ (k : Int) + 1 := by omega
          have b0 : wrap64 ((C[k]'(by omega)).toNat : Int) = byN C.data.toList k := byN_wrap C k (by omega)
          have b1 : wrap64 ((C[k + 1]'(by omega)).toNat : Int) = byN C.data.toList (k + 1) := byN_wrap C (k + 1) (by omega)
          unfold isHalf at HNX
          have u0 : ((C.data.toList.getD k 0).toNat : Int) = byN C.data.toList k := rfl
          have u1 : ((C.data.toList.getD (k + 1) 0).toNat : Int) = byN C.data.toList (k + 1) := rfl
          rw [u0, u1] at HNX
          clear u0 u1
          generalize byN C.data.toList k = x0 at *
          generalize byN C.data.toList (k + 1) = x1 at *
          have HSZ := hid hSz
          clear hSz
          gi_wp2_with fail
          all_goals first
            | (have HNX2 : Hid (runE C.data.toList 0 (pre ++ [(k, ⟨cop, crd, crs1, crs2, cimm⟩)]) = some (k + 2)) := hid (by rw [HNX.out, if_pos ⟨trivial, by rw [HSZ.out]; exact hk2, by assumption, by simpa using ‹(x1 == h / 256) = true›⟩])
               have g2 := heap_setCell_same W3 Be 0 _ 3 (.int .i64 ((k : Int) + 2)) HV3.out.1
               obtain ⟨n1, n2, n3, n4, n5, n6⟩ := HNU.out
               have o2 : ∀ j, j ≠ Be → (W3.setCell ⟨Be, 0, none⟩ (.int .i64 ((k : Int) + 2))).heap[j]? = W3.heap[j]? := fun j hj => Below.heap_setCell _ _ _ _ (fun e => hj e)
               exact ⟨HV3.out.2.2.2.2.2.1.trans (keeps_set HV3.out.1 _ _), kpi_t HV3.out.2.2.2.2.2.2 (kpi_set HV3.out.1 (by decide) _ _), k + 2, ⟨HNX2.out, by rw [g2]; rfl⟩, (o2 Bg (by omega)).trans HV3.out.2.1, (o2 Bc (by omega)).trans HV3.out.2.2.1, (o2 _ (by omega)).trans HV3.out.2.2.2.1, HV3.out.2.2.2.2.1.setCell (by show w.heap.size ≤ Be; omega) _⟩)
            | (have HNX2 : Hid (runE C.data.toList 0 (pre ++ [(k, ⟨cop, crd, crs1, crs2, cimm⟩)]) = some (k + 4)) := hid (by rw [HNX.out, if_neg (fun hc => (by have q1 := hc.2.2.1; have q2 := hc.2.2.2; simp_all))])
               exact ⟨HV3.out.2.2.2.2.2.1, HV3.out.2.2.2.2.2.2, k + 4, ⟨HNX2.out, HV3.out.1⟩, HV3.out.2.1, HV3.out.2.2.1, HV3.out.2.2.2.1, HV3.out.2.2.2.2.1⟩)
            | (trace_state; sorry)
        · have HNX2 : Hid (runE C.data.toList 0 (pre ++ [(k, ⟨cop, crd, crs1, crs2, cimm⟩)]) = some (k + 4)) := hid (by rw [HNX.out, if_neg (fun hc => hk2 (by have := hc.2.1; omega))])
          clear HNX
          have hk2i : ¬ (k : Int) + 2 ≤ C.size := by omega
          gi_wp2_with fail
          exact ⟨HV3.out.2.2.2.2.2.1, HV3.out.2.2.2.2.2.2, k + 4, ⟨HNX2.out, HV3.out.1⟩, HV3.out.2.1, HV3.out.2.2.1, HV3.out.2.2.2.1, HV3.out.2.2.2.2.1⟩
      · have HNX2 : Hid (runE C.data.toList 0 (pre ++ [(k, ⟨cop, crd, crs1, crs2, cimm⟩)]) = some (k + 4)) := hid (by rw [HNX.out, if_neg (fun hc => hee hc.1)])
        clear HNX
        clear HRG
        gi_wp2_with fail
        exact ⟨HV3.out.2.2.2.2.2.1, HV3.out.2.2.2.2.2.2, k + 4, ⟨HNX2.out, HV3.out.1⟩, HV3.out.2.1, HV3.out.2.2.1, HV3.out.2.2.2.1, HV3.out.2.2.2.2.1⟩
    · have HNO : Hid (runE C.data.toList 0 (pre ++ [(k, ⟨cop, crd, crs1, crs2, cimm⟩)]) = none) := hid (by rw [HRE.out, if_neg hgo])
      have cr : V.cell? ⟨w.heap.size, 0, none⟩ = some (.bool false) := by rw [Lib.cell_of_heap HV.out.2.2.2.1]; rfl
      have fr := frz HV.out.2.2.2.1 0
      clear HRE
      by_cases hke : k = e
      · have hk : (4096 : Int) ≤ k := by omega
        subst hke
        clear hgo
        gi_wp2_with fail
        exact ⟨keeps_set HV.out.2.2.2.1 _ _, rfl, HNO.out⟩
      · have hk : ¬ (k : Int) = e := by omega
        clear hgo
        gi_wp2_with fail
        exact ⟨keeps_set HV.out.2.2.2.1 _ _, rfl, HNO.out⟩
  case done =>
    rintro D xs V hD rfl ⟨e, ⟨h1, h2⟩, h3, h4, h5, h6⟩ hK
    have he : e = C.size := by
      have := HF.out.run
      rw [h1] at this
      rw [← size_list]
      exact Option.some.inj this
    subst he
    have ce : V.cell? ⟨Be, 0, none⟩ = some (.int .i64 C.size) := by rw [Lib.cell_of_heap h2]; rfl
    have cc : V.cell? ⟨Bc, 0, none⟩ = some (.string C) := by rw [Lib.cell_of_heap h4]; rfl
    have HV := hid (And.intro h3 (And.intro h4 (And.intro h5 (And.intro h6 hK))))
    have HNU := hid (And.intro hBe (And.intro hBg (And.intro hBf (And.intro hBi (And.intro hsz5 (And.intro HLT hD))))))
    have HLN := hid hlen
    clear h1 h2 h3 h4 h5 h6 hK hBe hBg hBf hBi hBc hsz5 hbi HLT HS4 hlen HRes HCod HBeg HEnd HB5 HE hD
    gi_wp2_with fail
    obtain ⟨QQ, hQ0, hQS⟩ := HF.out.step
    have HQ0 := hid hQ0
    have HQS := hid hQS
    clear hQ0 hQS HF ce cc
    refine wpIn_wide.2 ?_
    go_loopw [16] (fun v wr => ∃ k : Nat, v = .int .i64 k ∧ Hid (QQ k) ∧ k ≤ C.size ∧ ShB C Bg Bc D w wr) (fun v _ => C.size - (intOf v).toNat)
    case atStart => exact ⟨0, rfl, HQ0, Nat.zero_le _, HV.out.1, HV.out.2.1, HV.out.2.2.1, HV.out.2.2.2.1, HV.out.2.2.2.2⟩
    case round =>
      obtain ⟨k, rfl, HQ, hk, HX⟩ := hrel
      clear HV HQ0
      have cc := HX.cell
      by_cases hlt : k < C.size
      · obtain ⟨i, hcase, hlead⟩ := HQS.out k HQ.out (by rw [size_list]; exact hlt)
        rw [size_list] at hcase
        have hk2 : k + 2 ≤ C.size := by rcases hcase with h | h <;> omega
        have HEX := hid (fun w' => pexpand_any (byN C.data.toList k + 256 * byN C.data.toList (k + 1)) w')
        have HARG := hid (half_arg C k (by omega))
        have HCA := hid hcase
        have HLD := hid hlead
        clear hcase hlead HQS HQ
        have hki : (k : Int) < C.size := by omega
        have hki1 : (k : Int) + 1 < C.size := by omega
        have hki2 : (0 : Int) ≤ (k : Int) + 1 := by omega
        have hln : (C.size : Int) ≤ 4000 := by have := HLN.out; omega
        have wc : IntKind.i64.wrap ((k : Int) + 1) = (k : Int) + 1 := IntWalk.i64_in _ (by omega)
        have hbc := (Array.getElem?_eq_some_iff.1 HX.cod).1
        have hne1 : ¬ Bc = wr.heap.size := by omega
        have hne2 : ¬ wr.heap.size = Bc := by omega
        have HLW : Hid (Bg ≠ wr.heap.size ∧ Bc ≠ wr.heap.size ∧ w.heap.size ≤ wr.heap.size ∧ w.heap.size ≠ wr.heap.size ∧ D ≠ wr.heap.size) := hid (by
          have h1 := (Array.getElem?_eq_some_iff.1 HX.beg).1
          have h2 := (Array.getElem?_eq_some_iff.1 HX.res).1
          have h3 := (Array.getElem?_eq_some_iff.1 HX.dfr).1
          omega)
        generalize hEX : Pn.expP (byN C.data.toList k + 256 * byN C.data.toList (k + 1)) = EX at *
        have HEE := hid hEX
        clear hEX
        obtain ⟨⟨eop, erd, ers1, ers2, eimm⟩, ee⟩ := EX
        unfold Pn.Ins.val at HEX
        simp only at HEX
        go_wp2_with fail
        go_cut [17, 18] from 193 to 193 (fun v17 v18 wx => ∃ Bx : Nat, v17 = .pointer (some ⟨Bx, 0, none⟩) ∧ v18 = .int .i64 ee ∧ ShB C Bg Bc D w wx ∧ Hid (CellsAt Bx (insC ⟨eop, erd, ers1, ers2, eimm⟩) wx) ∧ wr.heap.size ≤ Bx)
        case first =>
          go_region_held3 (fun w' => w'.cell? ⟨Bc, 0, none⟩ = some (.string C)) (first | (exact ShB.cell (by assumption)) | go_keep)
            (first | (go_at_call 19; rw [HARG.out]; refine (HEX.out _).mono ?_; rintro e w' ⟨rfl, hB'⟩; first
              | (have hs' := (HX.next ((Below.refl _ _).drew)).next hB'; have hq := hs'.cell; have hbw := (Array.getElem?_eq_some_iff.1 hs'.cod).1; have hne3 : ¬ Bc = w'.heap.size := (by omega); have hne4 : ¬ w'.heap.size = Bc := (by omega))
              | (have hs' := ((HX.next ((Below.refl _ _).drew)).next ((Below.refl _ _).alloc (Nat.le_refl _) _)).next hB'; have hq := hs'.cell; have hC1 := (CellsAt.new wr.drew z5' 26).next hB'; have y0 : w'.cell? ⟨wr.heap.size, 0, none⟩ = some (.int .i64 0) := hC1.2.2 0 _ rfl; have y1 : w'.cell? ⟨wr.heap.size, 1, none⟩ = some (.int .i64 0) := hC1.2.2 1 _ rfl; have y2 : w'.cell? ⟨wr.heap.size, 2, none⟩ = some (.int .i64 0) := hC1.2.2 2 _ rfl; have y3 : w'.cell? ⟨wr.heap.size, 3, none⟩ = some (.int .i64 0) := hC1.2.2 3 _ rfl; have y4 : w'.cell? ⟨wr.heap.size, 4, none⟩ = some (.int .i64 0) := hC1.2.2 4 _ rfl; have yf : ∀ q, w'.frozen? ⟨wr.heap.size, q, none⟩ = false := hC1.2.1)))
          all_goals first
            | (have hC1 := hC1
               go_wp2_with fail
               go_meet
               case rel => exact ⟨wr.heap.size, rfl, rfl, (((((hs'.set HLW.out _ _).set HLW.out _ _).set HLW.out _ _).set HLW.out _ _).set HLW.out _ _), hid (set5 hC1 ⟨eop, erd, ers1, ers2, eimm⟩), Nat.le_refl _⟩)
            | (go_wp2_with fail
               go_meet
               case rel => exact ⟨w'.heap.size, rfl, rfl, hs'.next ((Below.refl _ _).alloc (Nat.le_refl _) _), hid (CellsAt.new w' (insC ⟨eop, erd, ers1, ers2, eimm⟩) 26), hB'.size⟩)
        case rest =>
          obtain ⟨Bx, rfl, rfl, hs, HCx, hBx⟩ := hcut
          have cc := hs.cell
          have HLB : Hid (Bg ≠ Bx ∧ Bc ≠ Bx ∧ w.heap.size ≤ Bx ∧ w.heap.size ≠ Bx ∧ D ≠ Bx) := hid (by
            have h1 := (Array.getElem?_eq_some_iff.1 HX.beg).1
            have h2 := (Array.getElem?_eq_some_iff.1 HX.res).1
            have h3 := (Array.getElem?_eq_some_iff.1 HX.dfr).1
            omega)
          clear HX HEX HARG hne1 hne2
          have hki4 : (C.size : Int) ≤ 4000 := hln
          have b0 : wrap64 ((C[k]'(by omega)).toNat : Int) = byN C.data.toList k := byN_wrap C k (by omega)
          have b1 : wrap64 ((C[k + 1]'(by omega)).toNat : Int) = byN C.data.toList (k + 1) := byN_wrap C (k + 1) (by omega)
          have b2 : ((C[k]'(by omega)).toNat : Int) = byN C.data.toList k := byN_eq C k (by omega)
          go_upto_region 27 with fail
          go_cut [120] from 193 to 193 (fun v wx => v = .bool (decide (byN C.data.toList k % 4 = 3)) ∧ wc = wx)
          case first =>
            rcases HCA.out with ⟨t1, t2, t3, t4⟩ | ⟨t1, t2, t3, t4⟩
            · have he0 : ee = 0 := congrArg Prod.snd t3
              subst he0
              clear t1 t3 t4
              go_wp2_with fail
              go_meet
              case rel => exact ⟨congrArg Value.bool (by rw [Bool.eq_iff_iff]; simp), rfl⟩
            · clear t1 t3 t4
              by_cases he0 : ee = 0
              · subst he0
                go_wp2_with fail
                go_meet
                case rel => exact ⟨congrArg Value.bool (by simp [t2]), rfl⟩
              · go_wp2_with fail
                go_meet
                case rel => exact ⟨congrArg Value.bool (by simp [t2]), rfl⟩
          case rest =>
            obtain ⟨rfl, rfl⟩ := hcut
            go_upto_if 120 with fail
            go_cut [19] from 112 to 121 (fun v wx => ∃ n : Nat, v = .int .i64 n ∧ (n = 2 ∨ n = 4) ∧ Hid (QQ (k + n)) ∧ k + n ≤ C.size ∧ ShB C Bg Bc D w wx ∧ Hid (CellsAt Bx (insC i) wx))
            case first =>
              rcases HCA.out with ⟨t1, t2, t3, t4⟩ | ⟨t1, t2, t3, t4⟩
              · have ei : (⟨eop, erd, ers1, ers2, eimm⟩ : Pn.Ins) = i := congrArg Prod.fst t3
                have HT4 := hid t4
                rw [ei] at HCx
                clear t3 t4 HLD HEE
                go_wp2_with fail
                go_meet
                case rel => exact ⟨2, rfl, .inl rfl, HT4, t1, hs, HCx⟩
              · have HT4 := hid t4
                have HDC := hid (fun w' => pdecode_any (byN C.data.toList k + 256 * byN C.data.toList (k + 1) + 65536 * byN C.data.toList (k + 2) + 16777216 * byN C.data.toList (k + 3)) w')
                rw [t3] at HDC
                have HAR := hid (word_arg C k t1)
                have hk4i : ¬ (C.size : Int) < (k : Int) + 4 := by omega
                have hki3 : (k : Int) + 2 < C.size := by omega
                have hki5 : (k : Int) + 3 < C.size := by omega
                have hki6 : (0 : Int) ≤ (k : Int) + 2 := by omega
                have hki7 : (0 : Int) ≤ (k : Int) + 3 := by omega
                have w2 : IntKind.i64.wrap ((k : Int) + 2) = (k : Int) + 2 := IntWalk.i64_in _ (by omega)
                have w3 : IntKind.i64.wrap ((k : Int) + 3) = (k : Int) + 3 := IntWalk.i64_in _ (by omega)
                have w4 : IntKind.i64.wrap ((k : Int) + 4) = (k : Int) + 4 := IntWalk.i64_in _ (by omega)
                clear t3 t4 HLD HEE
                go_wp2_with fail
                go_quiet (fail)
                generalize hwd : wc.drewN _ = wd
                have hs2 : ShB C Bg Bc D w wd := by rw [← hwd]; exact hs.next (drewN_below wc _)
                have HC2 : Hid (CellsAt Bx (insC ⟨eop, erd, ers1, ers2, eimm⟩) wd) := hid (by rw [← hwd]; exact HCx.out.next (drewN_below wc _))
                clear hwd hs HCx cc
                have cc := hs2.cell
                go_wp2_with fail
                go_quiet (fail)
                generalize hwe : wd.drewN _ = we
                have hs3 : ShB C Bg Bc D w we := by rw [← hwe]; exact hs2.next (drewN_below wd _)
                have HC3 : Hid (CellsAt Bx (insC ⟨eop, erd, ers1, ers2, eimm⟩) we) := hid (by rw [← hwe]; exact HC2.out.next (drewN_below wd _))
                clear hwe hs2 HC2 cc
                obtain ⟨iop, ird, irs1, irs2, iimm⟩ := i
                unfold Pn.Ins.val at HDC
                simp only at HDC
                go_wp2_with fail
                rw [HAR.out]
                refine (HDC.out we).mono ?_
                rintro e w7 ⟨rfl, hB7⟩
                have hs7 := hs3.next hB7
                have hC7 := HC3.out.next hB7
                have HS8 := hid (hs7.next ((Below.refl _ w7).alloc (Nat.le_refl _) (.cells #[.int .i64 iop, .int .i64 ird, .int .i64 irs1, .int .i64 irs2, .int .i64 iimm] 26)))
                have HC8 := hid (hC7.alloc (.cells #[.int .i64 iop, .int .i64 ird, .int .i64 irs1, .int .i64 irs2, .int .i64 iimm] 26))
                have HJ8 := hid (CellsAt.new w7 (insC ⟨iop, ird, irs1, irs2, iimm⟩) 26)
                clear hB7 hs3 HC3 hC7 hs7 HDC HAR
                go_upto_region 35 with fail
                generalize hW8 : w7.alloc _ = W8
                have HS8 : Hid (ShB C Bg Bc D w W8) := hid (by rw [← hW8]; exact HS8.out)
                have HC8 : Hid (CellsAt Bx (insC ⟨eop, erd, ers1, ers2, eimm⟩) W8) := hid (by rw [← hW8]; exact HC8.out)
                have HJ8 : Hid (CellsAt w7.heap.size (insC ⟨iop, ird, irs1, irs2, iimm⟩) W8) := hid (by rw [← hW8]; exact HJ8.out)
                clear hW8
                have yf := HC8.out.2.1
                have y0 := HC8.out.2.2 0 _ rfl
                have y1 := HC8.out.2.2 1 _ rfl
                have y2 := HC8.out.2.2 2 _ rfl
                have y3 := HC8.out.2.2 3 _ rfl
                have y4 := HC8.out.2.2 4 _ rfl
                have j0 := HJ8.out.2.2 0 _ rfl
                have j1 := HJ8.out.2.2 1 _ rfl
                have j2 := HJ8.out.2.2 2 _ rfl
                have j3 := HJ8.out.2.2 3 _ rfl
                have j4 := HJ8.out.2.2 4 _ rfl
                go_wp2_with fail
                go_meet
                case rel => exact ⟨4, rfl, .inr rfl, HT4, t1, (((((HS8.out.set HLB.out _ _).set HLB.out _ _).set HLB.out _ _).set HLB.out _ _).set HLB.out _ _), hid (set5 HC8.out ⟨iop, ird, irs1, irs2, iimm⟩)⟩
            case rest =>
              obtain ⟨n, rfl, hn, HQN, hkn, hs9, HC9⟩ := hcut
              have y0 := HC9.out.2.2 0 _ rfl
              have y4 := HC9.out.2.2 4 _ rfl
              have cc := hs9.cell
              have hkni : (k : Int) + n ≤ 4000 := by omega
              have wn : IntKind.i64.wrap ((k : Int) + n) = (k : Int) + n := IntWalk.i64_in _ (by omega)
              have HS9 := hid hs9
              obtain ⟨iop, ird, irs1, irs2, iimm⟩ := i
              clear hs HCx HCA hs9 HC9 b0 b1 b2
              rcases HLD.out with hno | ⟨tt, ht1, ht2, hty⟩
              · obtain ⟨q1, q2⟩ := hno
                clear HLD
                have q2' : ¬ iop = 62 := q2
                by_cases q3 : 54 ≤ iop
                · have q4 : ¬ iop ≤ 59 := fun h => q1 ⟨q3, h⟩
                  clear q1 q2
                  go_wp2_with fail
                  go_roundw
                  case rel => exact ⟨k + n, by go_num, HQN, hkn, HS9.out⟩
                  case measure => simp [intOf]; omega
                · clear q1 q2
                  go_wp2_with fail
                  go_roundw
                  case rel => exact ⟨k + n, by go_num, HQN, hkn, HS9.out⟩
                  case measure => simp [intOf]; omega
              · rw [size_list] at ht2
                have hti : (tt : Int) < C.size := by omega
                have hti2 : (tt : Int) < 4096 := by omega
                have hw1 : wrap64 ((k : Int) + iimm) = tt := by rw [ht1]; exact wrap_id _ (by omega)
                have hw2 : IntKind.i64.wrap ((k : Int) + iimm) = tt := by rw [ht1]; exact IntWalk.i64_in _ (by omega)
                have cg := HS9.out.begC tt (by omega)
                have hany : ((itemsL C).any fun x => x.1 == tt) = true := by
                  obtain ⟨y, hy1, hy2⟩ := hty
                  exact List.any_eq_true.2 ⟨y, hy1, by simp [hy2]⟩
                rw [hany] at cg
                clear hany hty ht1 HLD
                by_cases q3 : 54 ≤ iop
                · by_cases q4 : iop ≤ 59
                  · go_wp2_with fail
                    go_roundw
                    case rel => exact ⟨k + n, by go_num, HQN, hkn, HS9.out⟩
                    case measure => simp [intOf]; omega
                  · by_cases q5 : iop = 62
                    · go_wp2_with fail
                      go_roundw
                      case rel => exact ⟨k + n, by go_num, HQN, hkn, HS9.out⟩
                      case measure => simp [intOf]; omega
                    · go_wp2_with fail
                      go_roundw
                      case rel => exact ⟨k + n, by go_num, HQN, hkn, HS9.out⟩
                      case measure => simp [intOf]; omega
                · have q5 : ¬ iop = 62 := by omega
                  go_wp2_with fail
                  go_roundw
                  case rel => exact ⟨k + n, by go_num, HQN, hkn, HS9.out⟩
                  case measure => simp [intOf]; omega
      · have hkk : k = C.size := by omega
        subst hkk
        have cr : wr.cell? ⟨w.heap.size, 0, none⟩ = some (.bool false) := by rw [Lib.cell_of_heap HX.res]; rfl
        have fr := frz HX.res 0
        obtain ⟨n1, n2, n3, n4, n5, n6, n7⟩ := HNU.out
        have hRD : D ≠ w.heap.size := by omega
        have hx1 : (wr.setCell ⟨w.heap.size, 0, none⟩ (.bool true)).heap[D]? = some (.deferred (some [])) := (Below.heap_setCell _ _ _ _ (fun e => hRD e)).trans HX.dfr
        have hx2 := heap_setCell_same wr w.heap.size 0 _ 4 (.bool true) HX.res
        have HX1 := hid hx1
        have HX2 : Hid (∀ o, ((wr.setCell ⟨w.heap.size, 0, none⟩ (.bool true)).putObj D o).cell? ⟨w.heap.size, 0, none⟩ = some (.bool true)) := hid (fun o => by
          rw [Lib.cell_of_heap ((World.putObj_heap_other (fun e => hRD e.symm)).trans hx2)]; rfl)
        have HXB := hid (fun o o' h hc hw => (show Below w.heap.size w (wr.setCell ⟨w.heap.size, 0, none⟩ (.bool true)) from HX.bel.setCell (Nat.le_refl _) _).trans (belowK_b (w := w) (Nat.le_refl _) (wr.setCell ⟨w.heap.size, 0, none⟩ (.bool true)) D o o' (by omega) h hc hw))
        clear hlt hk n1 n2 n3 n4 n5 n6 n7 hRD hx1 hx2
        go_wp2_with fail
        gi_wp2_with fail
        refine ⟨by simp, .inl ⟨_, _, rfl, run_takeDeferred HX1.out, ?_⟩⟩
        refine ⟨.bool true, by simp [results, Tryz.results8, go_sem, HX2.out], rfl, ?_⟩
        exact HXB.out _ _ HX1.out rfl rfl
  case stop =>
    rintro D c pre V hD hpre ⟨rfl, hx⟩ hK
    exfalso
    obtain ⟨t, ht⟩ := hpre
    have hr := HF.out.run
    rw [← ht] at hr
    rw [run_none hx] at hr
    cases hr
end Go.Proofs.YtbmcofdodfcnnaaGreatDoor
