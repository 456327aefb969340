import Derived.RangeFuncNested
import Derived.RangeFuncBound
import Derived.RangeFuncCalls
import Derived.RangeFuncLeaves
import Derived.Shelf.Abstract
import Derived.Shelf.RegionOpen
import Derived.WalkKit
import Derived.OwnWalkIn
import Derived.TacticsInMore
import Derived.LoopNIn
import Derived.LoopIn
import Derived.Test.YtbmcofdodfcnnaaGreatDoorGXA
import Derived.Test.YtbmcofdodfcnnaaGreatDoorGAC
namespace Go.Proofs.YtbmcofdodfcnnaaGreatDoor
open Go.RowKit Go.Shelf
attribute [local go_sem] Oper.semAt_some
def ChkOk (c : Pn.Chk) : Prop := (0 ≤ c.num ∧ c.num < 4294967296) ∧ (c.size = 1 ∨ c.size = 2 ∨ c.size = 4)
theorem chk_ok (l : List UInt8) (h : l ≠ []) : ChkOk (Pn.chk l) ∧ (Pn.chk l).size ≤ l.length := by
  have hpos : 0 < l.length := List.length_pos_iff.2 h
  have h2 := Pn.numN_bd (l.take 2)
  have h4 := Pn.numN_bd (l.take 4)
  have h1 := Pn.numN_bd l
  have e2 : (2:Int) ^ (8 * (l.take 2).length) ≤ 2 ^ 32 := Pn.pow_mono (by simp; omega)
  have e4 : (2:Int) ^ (8 * (l.take 4).length) ≤ 2 ^ 32 := Pn.pow_mono (by simp; omega)
  have e : (2:Int) ^ 32 = 4294967296 := by decide
  unfold Pn.chk
  split
  · have hl : l.length = 1 := by omega
    have e1 : (2:Int) ^ (8 * l.length) ≤ 2 ^ 32 := Pn.pow_mono (by omega)
    exact ⟨⟨⟨h1.1, by simp only; omega⟩, .inl hl⟩, by simp only; omega⟩
  · split
    · exact ⟨⟨⟨h2.1, by simp only; omega⟩, .inr (.inl rfl)⟩, by simp only; omega⟩
    · split
      · exact ⟨⟨⟨h4.1, by simp only; omega⟩, .inr (.inr rfl)⟩, by simp only; omega⟩
      · exact ⟨⟨⟨h2.1, by simp only; omega⟩, .inr (.inl rfl)⟩, by simp only; omega⟩
abbrev CK : Type := { p : Nat × Pn.Chk // ChkOk p.2 }
def ckE (x : CK) : Array Value := #[.int .i64 x.1.1, .agg #[.int .i64 x.1.2.size, .int .i64 x.1.2.num, .int .i64 x.1.2.ins.op, .int .i64 x.1.2.ins.rd, .int .i64 x.1.2.ins.rs1, .int .i64 x.1.2.ins.rs2, .int .i64 x.1.2.ins.imm]]
def chkF : Nat → Nat → List UInt8 → List CK
  | 0, _, _ => []
  | n + 1, k, l => if h : l = [] then [] else ⟨(k, Pn.chk l), (chk_ok l h).1⟩ :: chkF n (k + (Pn.chk l).size) (l.drop (Pn.chk l).size)
theorem chkF_nil (n k : Nat) : chkF n k [] = [] := by cases n <;> simp [chkF]
theorem chkF_fuel : ∀ (n m k : Nat) (l : List UInt8), l.length ≤ n → l.length ≤ m → chkF n k l = chkF m k l
  | 0, m, k, l, h, _ => by
    have : l = [] := List.eq_nil_of_length_eq_zero (by omega)
    rw [this, chkF_nil, chkF_nil]
  | n + 1, 0, k, l, _, h => by
    have : l = [] := List.eq_nil_of_length_eq_zero (by omega)
    rw [this, chkF_nil, chkF_nil]
  | n + 1, m + 1, k, l, h1, h2 => by
    by_cases hl : l = []
    · rw [hl, chkF_nil, chkF_nil]
    · have hp : 1 ≤ (Pn.chk l).size := by rcases (chk_ok l hl).1.2 with e | e | e <;> omega
      have hlp := List.length_pos_iff.2 hl
      simp only [chkF, dif_neg hl]
      rw [chkF_fuel n m _ (l.drop (Pn.chk l).size) (by simp; omega) (by simp; omega)]
def KpC (W W' : World) : Prop := W.heap.size ≤ W'.heap.size ∧ ∀ (k : Nat) (cs : Array Value) (t : TypeId) (fr : Nat × Nat), W.heap[k]? = some (Obj.cells cs t fr) → (t = 139 ∨ t = 9) → W'.heap[k]? = some (Obj.cells cs t fr)
theorem kpc_t {A B C : World} (h : KpC A B) (k : KpC B C) : KpC A C := ⟨Nat.le_trans h.1 k.1, fun i cs t fr hi ht => k.2 i cs t fr (h.2 i cs t fr hi ht) ht⟩
theorem kpc_below {A B : World} (h : Below A.heap.size A B) : KpC A B := ⟨h.size, fun k _ _ _ hk _ => (h.block k (Array.getElem?_eq_some_iff.1 hk).1).trans hk⟩
theorem kpc_b (W : World) (l : Nat) (o o' : Obj) (hl : W.heap[l]? = some o) (ho : o.isCells = false) : KpC W (W.putObj l o') := by
  refine ⟨by simp, fun k cs t fr hk _ => ?_⟩
  by_cases e : k = l
  · subst e
    rw [hl] at hk
    cases hk
    simp [Obj.isCells] at ho
  · exact (World.putObj_heap_other e).trans hk
theorem below_grown {A B : World} (h : Below A.heap.size A B) : A.grownBy B none := ⟨h.os, h.tape, h.output, h.size, fun k hk _ => h.block k hk⟩
set_option maxRecDepth 100000 in
set_option maxHeartbeats 4000000 in
theorem chunks1_in (n : Nat) (hn : 1 ≤ n) (l Bn : Nat) (s : ByteArray) (hs : s.size ≤ 1000000) (J Jx : List CK → World → Prop) (W : World) (hJ : AbidesFrom W.heap.size J)
    (hY : ∀ pre x W1, J pre W1 → pre.length < s.size → YieldAt Fence.wide (n - 1) Tryz.prog l (ckE x) W1 fun e W' =>
      (e = .returned (.bool true) ∧ J (pre ++ [x]) W' ∧ KpC W1 W') ∨ (e = .returned (.bool false) ∧ Jx (pre ++ [x]) W'))
    (hBn : W.heap[Bn]? = some (.cells #[.string s] 9 (0, 0))) (h0 : J [] W) :
    CallsIn Fence.wide n Tryz.prog 137 #[.func (.yield l) #[] #[], .pointer (some ⟨Bn, 0, none⟩)] W fun e W' => (∃ v, e = .returned v) ∧
      ((∃ ys, ys = chkF s.size 0 s.data.toList ∧ J ys W') ∨ (∃ pre, pre <+: chkF s.size 0 s.data.toList ∧ Jx pre W')) := by
  have HY := hid hY
  clear hY
  refine callsIn_of_wp Tryz.func137 rfl trivial ?_ rfl
  simp only [Tryz.ntmps137, List.size_toArray, List.length_cons, List.length_nil, Nat.reduceAdd, Nat.reduceSub, Array.replicate_succ, Array.replicate_zero, List.push_toArray, List.append_toArray, List.nil_append, List.cons_append]
  gi_wp2
  gi_loopw [3] (fun p wr => ∃ (pre : List CK) (k : Nat), p = .int .i64 k ∧ k ≤ s.size ∧ pre.length ≤ k ∧ chkF s.size 0 s.data.toList = pre ++ chkF (s.size - k) k (s.data.toList.drop k) ∧ wr.heap[Bn]? = some (.cells #[.string s] 9 (0, 0)) ∧ W.heap.size ≤ wr.heap.size ∧ J pre wr)
    (fun p _ => s.size - (intOf p).toNat)
  case atStart => exact ⟨[], 0, rfl, Nat.zero_le _, Nat.zero_le _, by simp, hBn, Nat.le_refl _, h0⟩
  case round =>
    obtain ⟨pre, k, rfl, hk, hpk, hx, hb, hws, hJs⟩ := hrel
    have HX := hid hx
    clear hx
    have cb : wr.cell? ⟨Bn, 0, none⟩ = some (.string s) := by rw [Lib.cell_of_heap hb]; rfl
    by_cases hlt : k < s.size
    · have hki : (k : Int) < s.size := by omega
      have hki2 : (k : Int) ≤ s.size := by omega
      have hne : s.data.toList.drop k ≠ [] := by
        intro e
        have := congrArg List.length e
        rw [List.length_drop, size_list] at this
        simp at this
        omega
      have hok := chk_ok (s.data.toList.drop k) hne
      have he : (s.extract k s.size).data.toList = s.data.toList.drop k := Lib.extract_to_end s k
      have HF := hid (fun w' => firstChunk_is (s.extract k s.size) w')
      rw [he] at HF
      have HNX : Hid (chkF (s.size - k) k (s.data.toList.drop k) = ⟨(k, Pn.chk (s.data.toList.drop k)), hok.1⟩ :: chkF (s.size - (k + (Pn.chk (s.data.toList.drop k)).size)) (k + (Pn.chk (s.data.toList.drop k)).size) (s.data.toList.drop (k + (Pn.chk (s.data.toList.drop k)).size))) := hid (by
        obtain ⟨m, hm⟩ : ∃ m, s.size - k = m + 1 := ⟨s.size - k - 1, by omega⟩
        rw [hm]
        simp only [chkF, dif_neg hne, List.drop_drop]
        have hd : (s.data.toList.drop (k + (Pn.chk (s.data.toList.drop k)).size)).length = s.size - (k + (Pn.chk (s.data.toList.drop k)).size) := by rw [List.length_drop, size_list]
        rw [chkF_fuel m (s.size - (k + (Pn.chk (s.data.toList.drop k)).size)) _ _ (by rw [hd]; rcases hok.1.2 with e | e | e <;> omega) (by rw [hd]; exact Nat.le_refl _)])
      have hsz : 1 ≤ (Pn.chk (s.data.toList.drop k)).size ∧ k + (Pn.chk (s.data.toList.drop k)).size ≤ s.size := by
        have h2 := hok.2
        rw [List.length_drop, size_list] at h2
        rcases hok.1.2 with e | e | e <;> omega
      generalize hC : Pn.chk (s.data.toList.drop k) = C at *
      clear hC he hne
      obtain ⟨csize, cnum, ⟨cop, crd, crs1, crs2, cimm⟩⟩ := C
      unfold chkC at HF
      simp only at HF hsz
      gi_wp2_with fail
      refine ⟨trivial, (callsIn_wide.2 (HF.out _)).mono ?_⟩
      rintro e w1 ⟨rfl, hB1⟩
      have hBx : Below wr.heap.size wr (w1.alloc (.cells #[.int .i64 csize, .int .i64 cnum, .int .i64 cop, .int .i64 crd, .int .i64 crs1, .int .i64 crs2, .int .i64 cimm] 139)) := hB1.alloc hB1.size _
      have hJ1 : J pre (w1.alloc (.cells #[.int .i64 csize, .int .i64 cnum, .int .i64 cop, .int .i64 crd, .int .i64 crs1, .int .i64 crs2, .int .i64 cimm] 139)) := hJ pre wr _ none hJs (below_grown hBx) (fun r e => by cases e)
      have hK1 := kpc_below hBx
      have hbx : (w1.alloc (.cells #[.int .i64 csize, .int .i64 cnum, .int .i64 cop, .int .i64 crd, .int .i64 crs1, .int .i64 crs2, .int .i64 cimm] 139)).heap[w1.heap.size]? = some (.cells #[.int .i64 csize, .int .i64 cnum, .int .i64 cop, .int .i64 crd, .int .i64 crs1, .int .i64 crs2, .int .i64 cimm] 139 (0, 0)) := heap_alloc_new w1 _
      obtain ⟨fn, tmps, assign, body, hy, hR⟩ := HY.out pre ⟨(k, ⟨csize, cnum, ⟨cop, crd, crs1, crs2, cimm⟩⟩), hok.1⟩ _ hJ1 (by omega)
      dsimp only [ckE] at hy
      have HB1 := hid hBx
      have HK1 := hid hK1
      have HBX := hid hbx
      clear hBx hJ1 hK1 hbx hB1 HF
      gi_wp2_with fail
      refine hR.mono ?_
      rintro e W3 (⟨rfl, hJ3, hk3⟩ | ⟨rfl, hJx3⟩)
      · have hk4 := kpc_t HK1.out hk3
        have hb3 := hk4.2 Bn _ _ _ hb (.inr rfl)
        have hx3 := hk3.2 _ _ _ _ HBX.out (.inl rfl)
        have c3 : W3.cell? ⟨w1.heap.size, 0, none⟩ = some (.int .i64 csize) := by rw [Lib.cell_of_heap hx3]; rfl
        have wa : IntKind.i64.wrap ((k : Int) + csize) = (k : Int) + csize := IntWalk.i64_in _ (by omega)
        have hJ4 := hid hJ3
        have HS3 := hid hk4.1
        have HB3 := hid hb3
        clear hk3 hk4 hx3 hb3 hJ3
        gi_wp2_with fail
        go_roundw
        case rel =>
          refine ⟨pre ++ [⟨(k, ⟨csize, cnum, ⟨cop, crd, crs1, crs2, cimm⟩⟩), hok.1⟩], k + csize, by go_num, by omega, by simp; omega, ?_, HB3.out, Nat.le_trans hws HS3.out, hJ4.out⟩
          rw [HX.out, HNX.out]
          simp
        case measure => simp [intOf]; omega
      · have HJX := hid hJx3
        clear hJx3
        gi_wp2_with fail
        refine bodyPost_ret (results_none rfl _ _ _) rfl ?_
        refine ⟨⟨_, rfl⟩, .inr ⟨_, ?_, HJX.out⟩⟩
        rw [HX.out, HNX.out]
        exact ⟨chkF (s.size - (k + csize)) (k + csize) (s.data.toList.drop (k + csize)), by simp⟩
    · have hki : ¬ (k : Int) < s.size := by omega
      have hkk : k = s.size := by omega
      gi_wp2
      go_end0
      refine ⟨⟨_, rfl⟩, .inl ?_⟩
      have e : chkF s.size 0 s.data.toList = pre := by
        rw [HX.out, show s.size - k = 0 by omega]
        simp [chkF]
      rw [e]
      exact hJs
theorem chunks_stops (n : Nat) (hn : 1 ≤ n) (Bn : Nat) (s : ByteArray) (hs : s.size ≤ 1000000) (w : World) (hBn : w.heap[Bn]? = some (.cells #[.string s] 9 (0, 0))) :
    SeqStopsK Fence.wide n Tryz.prog 137 #[.pointer (some ⟨Bn, 0, none⟩)] ckE KpC (fun ys => ys = chkF s.size 0 s.data.toList) (fun pre => pre <+: chkF s.size 0 s.data.toList) s.size w := fun l J Jx W hW hJ _ hY h0 =>
  chunks1_in n hn l Bn s hs J Jx W hJ hY ((hW.block Bn (Array.getElem?_eq_some_iff.1 hBn).1).trans hBn) h0
theorem chunks_in (n : Nat) (s : ByteArray) (w : World) :
    CallsIn Fence.wide n Tryz.prog 75 #[.string s] w fun e w' => e = .returned (.func (.func 137) #[] #[.pointer (some ⟨w.heap.size, 0, none⟩)]) ∧ w' = w.alloc (.cells #[.string s] 9) := by
  refine callsIn_of_wp Tryz.func75 rfl trivial ?_ rfl
  simp only [Tryz.ntmps75, List.size_toArray, List.length_cons, List.length_nil, Nat.reduceAdd, Nat.reduceSub, Array.replicate_succ, Array.replicate_zero, List.push_toArray, List.append_toArray, List.nil_append, List.cons_append]
  gi_wp2
  go_ret
  exact ⟨rfl, rfl⟩
end Go.Proofs.YtbmcofdodfcnnaaGreatDoor
namespace Go.Proofs.YtbmcofdodfcnnaaGreatDoor
open Go.RowKit Go.Shelf
end Go.Proofs.YtbmcofdodfcnnaaGreatDoor
namespace Go.Proofs.YtbmcofdodfcnnaaGreatDoor
open Go.RowKit Go.Shelf
attribute [local go_sem] Oper.semAt_some
end Go.Proofs.YtbmcofdodfcnnaaGreatDoor
