import Derived.Test.YtbmcofdodfcnnaaGreatDoorV22
namespace Go.Proofs.YtbmcofdodfcnnaaGreatDoor
open Go.RowKit

structure OpD where
  kd : Int
  on : Int
  a : Int
  b : Int
  op : Int
  rd : Int
  rs1 : Int
  rs2 : Int
  imm : Int
  s : ByteArray
  sh : Bool
def OpD.cells (o : OpD) : List Value := opCells o.kd o.on o.a o.b o.op o.rd o.rs1 o.rs2 o.imm o.s o.sh
theorem coded_is (o : OpD) (w : World) (hE : Env w) (h1 : 1 ≤ o.kd) (h4 : o.kd ≤ 4) : Calls Tryz.prog 52 #[.agg o.cells.toArray] w fun e w' => e = .returned (.bool true) ∧ Below w.heap.size w w' := by
  obtain ⟨kd, on, a, b, op, rd, rs1, rs2, imm, s, sh⟩ := o
  simp only at h1 h4
  have : kd = 1 ∨ kd = 2 ∨ kd = 3 ∨ kd = 4 := by omega
  rcases this with rfl | rfl | rfl | rfl
  · exact coded_1 on a b op rd rs1 rs2 imm s sh w
  · exact coded_2 on a b op rd rs1 rs2 imm s sh w
  · exact coded_3 on a b op rd rs1 rs2 imm s sh w hE
  · exact coded_4 on a b op rd rs1 rs2 imm s sh w hE

set_option maxRecDepth 100000 in
set_option maxHeartbeats 4000000 in
theorem step_is (o : OpD) (p : Value) (w : World) (hE : Env w) (h4 : o.kd ≤ 4) : Calls Tryz.prog 33 #[p, .agg o.cells.toArray] w fun e w' => e = .returned (.bool true) ∧ Below w.heap.size w w' := by
  have HE := hide (fun o => hE.alloc o)
  by_cases h1 : 1 ≤ o.kd
  · have HK := hide (fun (w : World) (hE : Env w) => coded_is o w hE h1 h4)
    obtain ⟨kd, on, a, b, op, rd, rs1, rs2, imm, s, sh⟩ := o
    simp only at h1 h4
    unfold OpD.cells opCells at *
    simp only at HK ⊢
    have h6 : kd ≤ 6 := by omega
    go_enter Tryz.func33, Tryz.ntmps33
    go_wp2_with fail
    refine (HK.out _ (HE.out _)).mono ?_
    rintro e w1 ⟨rfl, hB1⟩
    have HB1 := hide (((Below.refl w.heap.size w).alloc (Nat.le_refl _) _).trans (hB1.mono (by simp)))
    clear hB1
    go_wp2_with fail
    go_ret
    exact ⟨rfl, HB1.out⟩
  · obtain ⟨kd, on, a, b, op, rd, rs1, rs2, imm, s, sh⟩ := o
    simp only at h1 h4
    unfold OpD.cells opCells
    simp only
    have h7 : ¬ 7 ≤ kd := by omega
    have h10 : (kd == 10) = false := by simp; omega
    have h11 : ¬ 10 < kd := by omega
    go_enter Tryz.func33, Tryz.ntmps33
    go_wp2_with fail
    go_ret
    exact ⟨rfl, (Below.refl _ _).alloc (Nat.le_refl _) _⟩

theorem infoOp : (Tryz.prog.info? 74).map (fun i => (i.zero, i.size, i.bytes)) = some (some (.agg #[.int .i64 0, .int .i64 0, .int .i64 0, .int .i64 0, .int .i64 0, .int .i64 0, .int .i64 0, .int .i64 0, .int .i64 0, .string ⟨#[]⟩, .bool false]), 11, 96) := by kernel_rfl

def e0 : ByteArray := ⟨#[]⟩
/-- the steps ahead of any script -/
def all0 : List OpD := [⟨1, 0, 0, 0, 29, 8, 8, 0, -1, ⟨#[]⟩, false⟩, ⟨2, 0, 115, 0, 0, 0, 0, 0, 0, ⟨#[]⟩, false⟩, ⟨3, 0, 0, 0, 29, 8, 8, 0, -1, ⟨#[]⟩, false⟩,
  ⟨4, 0, 0, 0, 0, 0, 0, 0, 0, ⟨#[108, 100, 32, 120, 49, 44, 32, 56, 40, 120, 50, 41]⟩, false⟩, ⟨5, 0, 0, 0, 29, 8, 8, 0, -1, ⟨#[]⟩, false⟩,
  ⟨7, 0, 0, 0, 0, 0, 0, 0, 0, ⟨#[97, 58, 32, 97, 100, 100, 105, 32, 120, 49, 44, 32, 120, 49, 44, 32, 49, 10, 98, 110, 101, 32, 120, 49, 44, 32, 120, 50, 44, 32, 97, 10, 101, 98, 114, 101, 97, 107]⟩, true⟩,
  ⟨8, 0, 0, 0, 0, 0, 0, 0, 0, ⟨#[115, 0, 16, 0]⟩, false⟩, ⟨9, 0, 1, 0, 0, 0, 0, 0, 0, ⟨#[1, 0]⟩, false⟩, ⟨10, 0, 0, 0, 0, 0, 0, 0, 0, ⟨#[5, 5, 2, 144]⟩, false⟩, ⟨17, 0, 9, 0, 0, 0, 0, 0, 0, ⟨#[]⟩, false⟩, ⟨12, 0, 10, 0, 0, 0, 0, 0, 0, ⟨#[]⟩, false⟩]
def cells0 : List Value := all0.flatMap OpD.cells
/-- the world in which the script is put behind them -/
def world0 (w : World) : World := ((w.alloc (.cells #[.slice none 0 0] 72)).alloc (.cells #[.int .i64 29, .int .i64 8, .int .i64 8, .int .i64 0, .int .i64 (-1)] 26)).alloc (.cells cells0.toArray 74)
theorem world0_size (w : World) : (world0 w).heap.size = w.heap.size + 3 := by simp [world0]
theorem world0_below (w : World) : Below w.heap.size w (world0 w) := (((Below.refl _ _).alloc (Nat.le_refl _) _).alloc (by simp) _).alloc (by simp; omega) _
theorem world0_own (w : World) : (world0 w).ownsRow w.heap.size 74 11 (.slice (some ⟨w.heap.size + 1 + 1, 0, none⟩) 11 11) 11 cells0 := by
  refine ⟨rfl, .inr ⟨w.heap.size + 1 + 1, 11, cells0.toArray, rfl, by omega, ?_, Nat.le_refl _, by unfold maxLen; omega, rfl, rfl⟩⟩
  have := heap_alloc_last ((w.alloc (.cells #[.slice none 0 0] 72)).alloc (.cells #[.int .i64 29, .int .i64 8, .int .i64 8, .int .i64 0, .int .i64 (-1)] 26)) (.cells cells0.toArray 74)
  rw [World.size_alloc, World.size_alloc] at this
  exact this
theorem grown_below {w w9 : World} (h : (world0 w).grownBy w9 (some (w.heap.size + 1 + 1))) : Below w.heap.size w w9 := by
  have hb := world0_below w
  refine ⟨h.os.trans hb.os, h.tape.trans hb.tape, h.output.trans hb.output, Nat.le_trans hb.size h.size, fun b hlt => ?_⟩
  rw [h.block b (by rw [world0_size]; omega) ?_]
  · exact hb.block b hlt
  · intro e
    have e2 : b = w.heap.size + 1 + 1 := Option.some.inj e
    omega
theorem add_block (a : Addr) (j : Nat) : (a.add j).block = a.block := by
  unfold Addr.add; split <;> rfl
theorem cells_one (l : List OpD) : ∀ u ∈ l.flatMap OpD.cells, u.oneCell' = true := by
  intro u hu
  obtain ⟨o, _, ho⟩ := List.mem_flatMap.1 hu
  simp [OpD.cells, opCells] at ho
  rcases ho with rfl | rfl | rfl | rfl | rfl | rfl | rfl | rfl | rfl | rfl | rfl <;> rfl
theorem cells_len (l : List OpD) : (l.flatMap OpD.cells).length = l.length * 11 := by
  induction l with
  | nil => rfl
  | cons o l ih => rw [List.flatMap_cons, List.length_append, ih]; simp [OpD.cells, opCells]; omega
/-- the cells of step k -/
theorem op_cells {w : World} {base g cap : Nat} {l : List OpD} (h : w.ownsRow base 74 11 (.slice (some ⟨g, 0, none⟩) l.length cap) l.length (l.flatMap OpD.cells)) {k : Nat} {o : OpD} (ho : l[k]? = some o) :
    ∀ j u, o.cells[j]? = some u → w.cell? ⟨g, k * 11 + j, none⟩ = some u := fun j u hj => by
  have hk : k < l.length := by
    rcases Nat.lt_or_ge k l.length with h | h
    · exact h
    · rw [List.getElem?_eq_none h] at ho; cases ho
  have hj11 : j < 11 := by
    rcases Nat.lt_or_ge j 11 with h | h
    · exact h
    · rw [List.getElem?_eq_none (by simp [OpD.cells, opCells]; omega)] at hj; cases hj
  have hf := Pn.flat_get OpD.cells 11 (fun _ => rfl) l k j hj11 hk
  rw [ho] at hf
  simp only [Option.bind_some] at hf
  have := h.cells (g := g) rfl (11 * k + j) _ (hf.trans hj)
  rw [← this]
  have e : (⟨g, 0, none⟩ : Addr).add (11 * k + j) = ⟨g, k * 11 + j, none⟩ := by
    simp only [Addr.add]
    rw [Nat.mul_comm 11 k]; simp; omega
  rw [e]

set_option maxRecDepth 100000 in
set_option maxHeartbeats 8000000 in
theorem plays_is (ops : List OpD) (ad : Addr) (cap : Nat) (w : World) (hE : Env w) (hn : 0 < ops.length) (hmax : ops.length * 96 ≤ 140737488351232) (hc : ∀ j u, (ops.flatMap OpD.cells)[j]? = some u → w.cell? (ad.add j) = some u) (hbl : ad.block < w.heap.size) :
    Calls Tryz.prog 12 #[.slice (some ad) ops.length cap, .int .i64 4] w fun e w' => e = .returned (.bool true) ∧ Below w.heap.size w w' := by
  obtain ⟨i0, hi, hz0, hz1, hz2⟩ := info_parts infoOp
  have hnews : ∀ j u, (ops.flatMap OpD.cells)[j]? = some u → (world0 w).cell? (ad.add j) = some u := fun j u hj => ((world0_below w).cell (p := ad.add j) (by rw [add_block]; exact hbl)).trans (hc j u hj)
  have HC := hide hnews
  have HE := hide hE
  clear hc hE hnews
  go_enter Tryz.func12, Tryz.ntmps12
  go_wp2_with fail
  show Oper.wp Tryz.prog _ _ (world0 w) _ _
  refine wp_append_lies (world0 w) (.tmp 28) (.tmp 29) 22 rfl w.heap.size 74 i0 _ 11 96 Tryz.underlying22 hi hz0 hz1 hz2 rfl (by decide) _ 11 cells0 rfl (world0_own w) ad ops.length cap (ops.flatMap OpD.cells) rfl (cells_len ops) HC.out (cells_one ops) hn
    (by unfold maxLen; omega) (by omega) (by rw [world0_size]; omega) _ rfl ?_
  intro gg cap9 w9 hown9 hgrow hat hlt
  have HO9 : Hid (w9.ownsRow w.heap.size 74 11 (.slice (some ⟨gg, 0, none⟩) (all0 ++ ops).length cap9) (all0 ++ ops).length ((all0 ++ ops).flatMap OpD.cells)) := by
    have e1 : (all0 ++ ops).length = 11 + ops.length := by rw [List.length_append]; rfl
    have e2 : (all0 ++ ops).flatMap OpD.cells = cells0 ++ ops.flatMap OpD.cells := by rw [List.flatMap_append]; rfl
    show World.ownsRow _ _ _ _ _ _ _
    rw [e1, e2]; exact hown9
  have HB9 : Hid (Below w.heap.size w w9) := grown_below hgrow
  have HE9 : Hid (Env w9) := Env.below HE.out HB9.out HE.out.1
  have hN : (all0 ++ ops).length = 11 + ops.length := by rw [List.length_append]; rfl
  have hNi : ((11 + ops.length : Nat) : Int) ≤ 1500000000000 := by omega
  rw [← hN] at hNi ⊢
  clear hown9 hgrow hat hN
  generalize all0 ++ ops = L at *
  go_wp2_with fail
  go_loopw [8] (fun i wr => ∃ k : Nat, k ≤ L.length ∧ i = .int .i64 k ∧ Below w9.heap.size w9 wr) (fun i _ => L.length - (intOf i).toNat)
  case atStart => exact ⟨0, by omega, rfl, Below.refl _ _⟩
  case round =>
    obtain ⟨k, hk, rfl, hB⟩ := hrel
    have HB := hide hB
    by_cases hk2 : k < L.length
    · have hk3 : (k : Int) < L.length := by omega
      obtain ⟨o, ho⟩ : ∃ o, L[k]? = some o := ⟨_, List.getElem?_eq_getElem hk2⟩
      have hcs := op_cells HO9.out ho
      have hwr : ∀ j u, o.cells[j]? = some u → wr.cell? ⟨gg, k * 11 + j, none⟩ = some u := fun j u hj => (hB.cell (p := ⟨gg, k * 11 + j, none⟩) hlt).trans (hcs j u hj)
      have HEr : Hid (Env wr) := Env.below HE9.out hB HE9.out.1
      have HST := hide (fun (p : Value) (h4 : o.kd ≤ 4) => step_is o p wr HEr.out h4)
      have HWR := hide hwr
      clear hcs hB ho
      obtain ⟨kd, on, a, b, op, rd, rs1, rs2, imm, s, sh⟩ := o
      unfold OpD.cells opCells at hwr HST
      simp only at hwr HST
      have c0 : wr.cell? ⟨gg, k * 11, none⟩ = some (.int .i64 kd) := hwr 0 _ rfl
      by_cases h4 : 4 < kd
      · clear hwr
        go_wp2_with fail
        go_roundw
        case rel => exact ⟨k + 1, by omega, by go_num, HB.out⟩
        case measure => simp [intOf]; omega
      · have c1 := hwr 1 _ rfl
        have c2 := hwr 2 _ rfl
        have c3 := hwr 3 _ rfl
        have c4 := hwr 4 _ rfl
        have c5 := hwr 5 _ rfl
        have c6 := hwr 6 _ rfl
        have c7 := hwr 7 _ rfl
        have c8 := hwr 8 _ rfl
        have c9 := hwr 9 _ rfl
        have c10 := hwr 10 _ rfl
        clear hwr
        go_wp2_with fail
        refine (HST.out _ (by omega)).mono ?_
        rintro e w2 ⟨rfl, hB2⟩
        have HB2 := hide (HB.out.trans (hB2.mono HB.out.size))
        have d0 : w2.cell? ⟨gg, k * 11, none⟩ = some (.int .i64 kd) := (hB2.cell (p := ⟨gg, k * 11, none⟩) (by have := HB.out.size; show gg < _; omega)).trans c0
        have h10 : (kd == 10) = false := by simp; omega
        clear hB2 c0 c1 c2 c3 c4 c5 c6 c7 c8 c9 c10
        go_wp2_with fail
        go_roundw
        case rel => exact ⟨k + 1, by omega, by go_num, HB2.out⟩
        case measure => simp [intOf]; omega
    · have hke : k = L.length := by omega
      go_wp2_with fail
      go_ret
      exact ⟨rfl, HB9.out.trans (HB.out.mono HB9.out.size)⟩
end Go.Proofs.YtbmcofdodfcnnaaGreatDoor
