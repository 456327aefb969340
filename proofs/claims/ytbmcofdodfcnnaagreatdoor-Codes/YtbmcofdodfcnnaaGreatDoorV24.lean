import Derived.Test.YtbmcofdodfcnnaaGreatDoorV23
namespace Go.Proofs.YtbmcofdodfcnnaaGreatDoor
open Go.RowKit
theorem app_none (b : Addr) (ao : Option Addr) (c : Nat) (ty : TypeId) (w : World) : (Builtin.append_ #[22, 22] ty #[.slice (some b) 11 11, .slice ao 0 c]).run Tryz.prog w = .ok (.slice (some b) 11 11) w := by
  have hu := Tryz.underlying22
  cases ao with
  | none => simp [Builtin.append_, underlying, hu, go_sem, Builtin.firstCells, storeCells]
  | some a => simp [Builtin.append_, underlying, hu, go_sem, Builtin.firstCells, storeCells]
theorem wp_app_none {o : Oper} {a : Act} {K : Act → World → Prop} {Q : Exit → Act → World → Prop} (w : World) (s x : Operand)
    (ho : o.op = .call { callee := .builtin .append, args := #[s, x], argTypes := #[22, 22] }) (b : Addr) (ao : Option Addr) (c m : Nat) (hm : m = 11)
    (hs : a.eval s = .slice (some b) 11 11) (hx : a.eval x = .slice ao 0 c) (h : K (a.put o.dst (.slice (some b) m 11)) w) : o.wp Tryz.prog a w K Q := by
  subst hm
  unfold Oper.wp execOp
  simp only [ho, resolve, invoke, builtin, Sem.run_bind, Sem.run_pure, Result.andThen_ok, List.map_toArray, List.map_cons, List.map_nil, hs, hx, app_none]
  exact h

set_option maxRecDepth 100000 in
set_option maxHeartbeats 8000000 in
theorem plays_nil (ao : Option Addr) (cap : Nat) (x : Value) (HX : Hid (x = .slice ao 0 cap)) (w : World) (hE : Env w) :
    Calls Tryz.prog 12 #[x, .int .i64 4] w fun e w' => e = .returned (.bool true) ∧ Below w.heap.size w w' := by
  have HE := hide hE
  clear hE
  obtain ⟨L, hL⟩ : ∃ L : List OpD, L = all0 := ⟨_, rfl⟩
  go_enter Tryz.func12, Tryz.ntmps12
  go_wp2_with fail
  show Oper.wp Tryz.prog _ _ (world0 w) _ _
  refine wp_app_none (world0 w) (.tmp 28) (.tmp 29) rfl ⟨w.heap.size + 1 + 1, 0, none⟩ ao cap L.length (by rw [hL]; rfl) rfl HX.out ?_
  have HO9 : Hid ((world0 w).ownsRow w.heap.size 74 11 (.slice (some ⟨w.heap.size + 1 + 1, 0, none⟩) L.length 11) L.length (L.flatMap OpD.cells)) := by
    show World.ownsRow _ _ _ _ _ _ _
    rw [hL]; exact world0_own w
  have HB9 : Hid (Below w.heap.size w (world0 w)) := world0_below w
  have HE9 : Hid (Env (world0 w)) := Env.below HE.out HB9.out HE.out.1
  have hNi : (L.length : Int) ≤ 1500000000000 := by rw [hL]; decide
  have hlt : w.heap.size + 1 + 1 < (world0 w).heap.size := by rw [world0_size]; omega
  clear hL
  generalize world0 w = w9 at *
  generalize w.heap.size + 1 + 1 = gg at *
  go_wp2_with fail
  go_loopw [8] (fun i wr => ∃ k : Nat, k ≤ L.length ∧ i = .int .i64 k ∧ Below w9.heap.size w9 wr) (fun i _ => L.length - (intOf i).toNat)
  case atStart => exact ⟨0, by omega, rfl, Below.refl _ _⟩
  case round =>
    obtain ⟨k, hk, rfl, hB⟩ := hrel
    have HB := hide hB
    by_cases hk2 : k < L.length
    · have hk3 : (k : Int) < L.length := by omega
      obtain ⟨o, ho⟩ : ∃ o, L[k]? = some o := ⟨_, List.getElem?_eq_getElem hk2⟩
      have hcs := op_cells HO9.out ho
      have hwr : ∀ j u, o.cells[j]? = some u → wr.cell? ⟨gg, k * 11 + j, none⟩ = some u := fun j u hj => (hB.cell (p := ⟨gg, k * 11 + j, none⟩) hlt).trans (hcs j u hj)
      have HEr : Hid (Env wr) := Env.below HE9.out hB HE9.out.1
      have HST := hide (fun (p : Value) (h4 : o.kd ≤ 4) => step_is o p wr HEr.out h4)
      have HWR := hide hwr
      clear hcs hB ho
      obtain ⟨kd, on, a, b, op, rd, rs1, rs2, imm, s, sh⟩ := o
      unfold OpD.cells opCells at hwr HST
      simp only at hwr HST
      have c0 : wr.cell? ⟨gg, k * 11, none⟩ = some (.int .i64 kd) := hwr 0 _ rfl
      by_cases h4 : 4 < kd
      · clear hwr
        go_wp2_with fail
        go_roundw
        case rel => exact ⟨k + 1, by omega, by go_num, HB.out⟩
        case measure => simp [intOf]; omega
      · have c1 := hwr 1 _ rfl
        have c2 := hwr 2 _ rfl
        have c3 := hwr 3 _ rfl
        have c4 := hwr 4 _ rfl
        have c5 := hwr 5 _ rfl
        have c6 := hwr 6 _ rfl
        have c7 := hwr 7 _ rfl
        have c8 := hwr 8 _ rfl
        have c9 := hwr 9 _ rfl
        have c10 := hwr 10 _ rfl
        clear hwr
        go_wp2_with fail
        refine (HST.out _ (by omega)).mono ?_
        rintro e w2 ⟨rfl, hB2⟩
        have HB2 := hide (HB.out.trans (hB2.mono HB.out.size))
        have d0 : w2.cell? ⟨gg, k * 11, none⟩ = some (.int .i64 kd) := (hB2.cell (p := ⟨gg, k * 11, none⟩) (by have := HB.out.size; show gg < _; omega)).trans c0
        have h10 : (kd == 10) = false := by simp; omega
        clear hB2 c0 c1 c2 c3 c4 c5 c6 c7 c8 c9 c10
        go_wp2_with fail
        go_roundw
        case rel => exact ⟨k + 1, by omega, by go_num, HB2.out⟩
        case measure => simp [intOf]; omega
    · have hke : k = L.length := by omega
      go_wp2_with fail
      go_ret
      exact ⟨rfl, HB9.out.trans (HB.out.mono HB9.out.size)⟩

theorem codes_nil (ao : Option Addr) (cap : Nat) (w : World) (hE : Env w) :
    Calls Tryz.prog 3 #[.slice ao 0 cap] w fun e w' => e = .returned (.bool true) ∧ Below w.heap.size w w' := by
  have HP := hide (plays_nil ao cap _ (hide rfl) w hE)
  go_enter Tryz.func3, Tryz.ntmps3
  go_wp2_with fail
  refine HP.out.mono ?_
  rintro e w1 ⟨rfl, hB⟩
  have HB := hide hB
  clear hB
  go_wp2_with fail
  go_ret
  exact ⟨rfl, HB.out⟩
theorem codes_is (ops : List OpD) (ad : Addr) (cap : Nat) (w : World) (hE : Env w) (hn : 0 < ops.length) (hmax : ops.length * 96 ≤ 140737488351232) (hc : ∀ j u, (ops.flatMap OpD.cells)[j]? = some u → w.cell? (ad.add j) = some u) (hbl : ad.block < w.heap.size) :
    Calls Tryz.prog 3 #[.slice (some ad) ops.length cap] w fun e w' => e = .returned (.bool true) ∧ Below w.heap.size w w' := by
  have HP := hide (plays_is ops ad cap w hE hn hmax hc hbl)
  clear hc
  go_enter Tryz.func3, Tryz.ntmps3
  go_wp2_with fail
  refine HP.out.mono ?_
  rintro e w1 ⟨rfl, hB⟩
  have HB := hide hB
  clear hB
  go_wp2_with fail
  go_ret
  exact ⟨rfl, HB.out⟩
end Go.Proofs.YtbmcofdodfcnnaaGreatDoor
