import Derived.Test.YtbmcofdodfcnnaaGreatDoorAB
import Derived.Test.YtbmcofdodfcnnaaGreatDoorVE
import Derived.Test.YtbmcofdodfcnnaaGreatDoorGU1
namespace Go.Proofs.YtbmcofdodfcnnaaGreatDoor
open Go.RowKit
/-- a part of a program that is an instruction -/
def apart (i : Pn.Ins) (tg : List UInt8) (line size : Int) : List Value := Pn.partCells i tg ++ [.int .i64 line, .int .i64 size]
theorem firstSize_long (i : Pn.Ins) (tg : List UInt8) (line size : Int) (w : World) :
    Calls Tryz.prog 142 #[.agg (apart i tg line size).toArray, .bool false] w fun e w' => e = .returned (.int .i64 4) ∧ Below w.heap.size w w' := by
  unfold apart Pn.partCells
  simp only [List.cons_append, List.nil_append]
  go_enter Tryz.func142, Tryz.ntmps142
  go_wp2_with fail
  go_ret
  exact ⟨rfl, (Below.refl _ _).alloc (Nat.le_refl _) _⟩
theorem partBytes_long (i j : Pn.Ins) (tg : List UInt8) (line : Int) (w : World) (he : (Pn.enc j).2 = 0) :
    Calls Tryz.prog 145 #[.agg (apart i tg line 4).toArray, j.val] w fun e w' => e = .returned (.tuple #[.string ⟨(Pn.bytN 4 (Pn.enc j).1).toArray⟩, .int .i64 0]) ∧ Below w.heap.size w w' := by
  have HE := hid (fun w' => iencode_any j w')
  unfold apart Pn.partCells
  simp only [List.cons_append, List.nil_append]
  obtain ⟨jop, jrd, jrs1, jrs2, jimm⟩ := j
  generalize hX : Pn.enc ⟨jop, jrd, jrs1, jrs2, jimm⟩ = X at *
  have HX := hid hX
  clear hX
  obtain ⟨n, er⟩ := X
  simp only at he
  subst he
  unfold Pn.Ins.val at *
  simp only at *
  go_enter Tryz.func145, Tryz.ntmps145
  go_wp2_with fail
  refine (HE.out _).mono ?_
  rintro e w1 ⟨rfl, hB1⟩
  have HA := hid ((CellsAt.new w [.string ⟨#[]⟩, .int .i64 i.op, .int .i64 i.rd, .int .i64 i.rs1, .int .i64 i.rs2, .int .i64 i.imm, .string ⟨tg.toArray⟩, .int .i64 line, .int .i64 4] 202).alloc (.cells #[.int .i64 jop, .int .i64 jrd, .int .i64 jrs1, .int .i64 jrs2, .int .i64 jimm] 26))
  have c8 := (HA.out.next hB1).2.2 8 _ rfl
  have HB1 : Hid (Below w.heap.size w w1) := hid ((((Below.refl _ _).alloc (Nat.le_refl _) _).alloc (by rw [World.size_alloc]; omega) _).trans (hB1.mono (by rw [World.size_alloc, World.size_alloc]; omega)))
  clear hB1 HA HE
  go_wp2_with fail
  refine (bytes_is n 4 _ (by decide)).mono ?_
  rintro e w2 ⟨rfl, hB2⟩
  go_wp2_with fail
  go_ret2
  exact ⟨rfl, HB1.out.trans (hB2.mono HB1.out.size)⟩
end Go.Proofs.YtbmcofdodfcnnaaGreatDoor

namespace Go.Proofs.YtbmcofdodfcnnaaGreatDoor
open Go.RowKit
/-- a part: its instruction, target, line, size -/
abbrev Pt : Type := Pn.Ins × List UInt8 × Int × Int
def ptC (x : Pt) : List Value := apart x.1 x.2.1 x.2.2.1 x.2.2.2
/-- a program in its block b: its parts in the block g -/
structure PgAt (b g cap : Nat) (mv : Value) (l : List Pt) (w : World) : Prop where
  c0 : w.cell? ⟨b, 0, none⟩ = some (.slice (some ⟨g, 0, none⟩) l.length cap)
  c1 : w.cell? ⟨b, 1, none⟩ = some mv
  bl : b < w.heap.size
  gl : g < w.heap.size
  ne : b ≠ g
  fb : ∀ q, w.frozen? ⟨b, q, none⟩ = false
  fg : ∀ q, w.frozen? ⟨g, q, none⟩ = false
  at' : ∀ k x, l[k]? = some x → ∀ j u, (ptC x)[j]? = some u → w.cell? ⟨g, k * 9 + j, none⟩ = some u
theorem PgAt.next {b g cap : Nat} {mv : Value} {l : List Pt} {w w' : World} (h : PgAt b g cap mv l w) (hB : Below w.heap.size w w') : PgAt b g cap mv l w' :=
  ⟨(hB.cell (p := ⟨b, 0, none⟩) h.bl).trans h.c0, (hB.cell (p := ⟨b, 1, none⟩) h.bl).trans h.c1, Nat.lt_of_lt_of_le h.bl hB.size, Nat.lt_of_lt_of_le h.gl hB.size, h.ne, fun q => (hB.frozen (p := ⟨b, q, none⟩) h.bl).trans (h.fb q), fun q => (hB.frozen (p := ⟨g, q, none⟩) h.gl).trans (h.fg q), fun k x hk j u hj => (hB.cell (p := ⟨g, k * 9 + j, none⟩) h.gl).trans (h.at' k x hk j u hj)⟩
set_option maxRecDepth 20000 in
set_option maxHeartbeats 1000000 in
theorem placed_plain (b g cap : Nat) (mv : Value) (l : List Pt) (k : Nat) (i : Pn.Ins) (line size : Int) (sl : Value) (w : World) (h : PgAt b g cap mv l w) (hk : l[k]? = some (i, [], line, size)) :
    Calls Tryz.prog 146 #[.pointer (some ⟨b, 0, none⟩), .int .i64 k, sl] w fun e w' => e = .returned i.val ∧ Below w.heap.size w w' := by
  have hkl : k < l.length := by
    rcases Nat.lt_or_ge k l.length with h | h
    · exact h
    · rw [List.getElem?_eq_none h] at hk; cases hk
  have hki : (k : Int) < l.length := by omega
  have c0 := h.c0
  have bl := h.bl
  have gl := h.gl
  have p1 := h.at' k _ hk 1 _ rfl
  have p2 := h.at' k _ hk 2 _ rfl
  have p3 := h.at' k _ hk 3 _ rfl
  have p4 := h.at' k _ hk 4 _ rfl
  have p5 := h.at' k _ hk 5 _ rfl
  have p6 := h.at' k _ hk 6 _ rfl
  simp only at p1 p2 p3 p4 p5 p6
  obtain ⟨iop, ird, irs1, irs2, iimm⟩ := i
  simp only at p1 p2 p3 p4 p5 p6
  clear hk h
  go_enter Tryz.func146, Tryz.ntmps146
  go_wp2_with fail
  refine bodyPost_ret (v := (Pn.Ins.mk iop ird irs1 irs2 iimm).val) (by simp [results, Tryz.results146, go_sem, Pn.Ins.val]) rfl ⟨rfl, ?_⟩
  exact ((Below.refl _ _).alloc (Nat.le_refl _) _).alloc (by rw [World.size_alloc]; omega) _
end Go.Proofs.YtbmcofdodfcnnaaGreatDoor

namespace Go.Proofs.YtbmcofdodfcnnaaGreatDoor
open Go.RowKit
set_option maxRecDepth 20000 in
set_option maxHeartbeats 1000000 in
theorem grow_plain (b g cap : Nat) (mv : Value) (l : List Pt) (sl : Value) (w : World) (h : PgAt b g cap mv l w) (ht : ∀ x ∈ l, x.2.1 = []) (hn : l.length ≤ 1000000) :
    Calls Tryz.prog 144 #[.pointer (some ⟨b, 0, none⟩), sl] w fun e w' => e = .returned (.bool false) ∧ Below w.heap.size w w' := by
  have HP := hid h
  have HT := hid ht
  have c0 := h.c0
  clear h ht
  go_enter Tryz.func144, Tryz.ntmps144
  go_wp2_with fail
  clear c0
  go_loopw [5, 13] (fun a i wr => ∃ j : Nat, j ≤ l.length ∧ a = .bool false ∧ i = .int .i64 j ∧ Below w.heap.size w wr) (fun _ i _ => l.length - (intOf i).toNat)
  case atStart => exact ⟨0, Nat.zero_le _, rfl, rfl, Below.refl _ _⟩
  case round =>
    obtain ⟨j, hj, rfl, rfl, hB⟩ := hrel
    by_cases hlt : j < l.length
    · obtain ⟨⟨i, tg, line, size⟩, hx⟩ : ∃ x, l[j]? = some x := ⟨_, List.getElem?_eq_getElem hlt⟩
      have htg : tg = [] := HT.out _ (List.mem_of_getElem? hx)
      subst htg
      have hP := HP.out.next hB
      have gl := hP.gl
      have p0 := hP.at' j _ hx 0 _ rfl
      have p1 := hP.at' j _ hx 1 _ rfl
      have p2 := hP.at' j _ hx 2 _ rfl
      have p3 := hP.at' j _ hx 3 _ rfl
      have p4 := hP.at' j _ hx 4 _ rfl
      have p5 := hP.at' j _ hx 5 _ rfl
      have p6 := hP.at' j _ hx 6 _ rfl
      have p7 := hP.at' j _ hx 7 _ rfl
      have p8 := hP.at' j _ hx 8 _ rfl
      simp only [Nat.add_zero] at p0 p1 p2 p3 p4 p5 p6 p7 p8
      have hji : (j : Int) < l.length := by omega
      have HB := hid hB
      clear hP hB hx
      go_wp2_with fail
      go_roundw
      case rel => exact ⟨j + 1, by omega, rfl, by go_num, HB.out.alloc HB.out.size _⟩
      case measure => simp [intOf]; omega
    · go_wp2_with fail
      go_ret
      exact ⟨rfl, hB⟩
/-- where the parts lie, all of four bytes -/
def plc (n : Nat) : List Int := (List.range (n + 1)).map fun (k : Nat) => 4 * (k : Int)
end Go.Proofs.YtbmcofdodfcnnaaGreatDoor
