import Derived.Test.YtbmcofdodfcnnaaGreatDoorW9
import Derived.Test.YtbmcofdodfcnnaaGreatDoorW12
import Derived.Test.YtbmcofdodfcnnaaGreatDoorW13
import Derived.Test.YtbmcofdodfcnnaaGreatDoorPD
namespace Go.Proofs.YtbmcofdodfcnnaaGreatDoor
open Go.RowKit

theorem tok_cells {w : World} {base : Nat} {v : Value} {t : Pn.Tok} {l : List Pn.Tok} (h : w.ownsRow base 268 4 v (t :: l).length ((t :: l).flatMap Pn.tokCells)) :
    ∃ g cap, v = .slice (some ⟨g, 0, none⟩) (l.length + 1) cap ∧ g < w.heap.size ∧ l.length + 1 ≤ cap ∧ ∀ k u, (t :: l)[k]? = some u →
      w.cell? ⟨g, 0 + k * 4, none⟩ = some (.int .u8 u.kind) ∧ w.cell? ⟨g, 0 + k * 4 + 1, none⟩ = some (.string u.S) ∧ w.cell? ⟨g, 0 + k * 4 + 2, none⟩ = some (.int .i64 u.num) ∧ w.cell? ⟨g, 0 + k * 4 + 3, none⟩ = some (.bool u.blank) := by
  have hh := h
  obtain ⟨_, h1 | ⟨g, cap, cur, hv, hg, hb, hle, _⟩⟩ := h
  · have := h1.2; simp at this
  · refine ⟨g, cap, by rw [hv]; rfl, (hh.lt g (by rw [hv]; rfl)).2, by simpa using hle, fun k u hu => ?_⟩
    have hk : k < (t :: l).length := by
      rcases Nat.lt_or_ge k (t :: l).length with h | h
      · exact h
      · rw [List.getElem?_eq_none h] at hu; cases hu
    have hc : ∀ j, j < 4 → w.cell? ⟨g, 0 + k * 4 + j, none⟩ = (Pn.tokCells u)[j]? := fun j hj => by
      have hf := Pn.flat_get Pn.tokCells 4 (fun _ => rfl) (t :: l) k j hj hk
      rw [hu] at hf
      have hx : (Pn.tokCells u)[j]? = some ((Pn.tokCells u)[j]'(by simp [Pn.tokCells]; omega)) := List.getElem?_eq_getElem _
      simp only [Option.bind_some] at hf
      have := hh.cells (g := g) (by rw [hv]; rfl) (4 * k + j) _ (hf.trans hx)
      rw [hx, ← this]
      have e : (⟨g, 0, none⟩ : Addr).add (4 * k + j) = ⟨g, 0 + k * 4 + j, none⟩ := by
        simp only [Addr.add]
        rw [Nat.mul_comm 4 k]; simp; omega
      rw [e]
    exact ⟨hc 0 (by omega), hc 1 (by omega), hc 2 (by omega), hc 3 (by omega)⟩

set_option maxRecDepth 100000 in
set_option maxHeartbeats 4000000 in
theorem read_in (s : ByteArray) (w : World) (hs : s.size ≤ 2000) :
    Calls Tryz.prog 95 #[.string s] w fun e w' => e = .returned (.tuple #[(Pn.rd s).1.val, .int .i64 (Pn.rd s).2]) ∧ Below w.heap.size w w' := by
  have hs2 : (s.size : Int) ≤ 2000 := by omega
  have hsn : ¬ 2000 < s.size := by omega
  go_enter Tryz.func95, Tryz.ntmps95
  go_wp2_with fail
  refine (tokens_is s _ hs).mono ?_
  rintro e w1 ⟨ho, hB1⟩
  have zf : ∀ q, w1.frozen? ⟨w.heap.size, q, none⟩ = false := fun q => (hB1.frozen (p := ⟨w.heap.size, q, none⟩) (by simp)).trans (by go_simp)
  have z0 : w1.cell? ⟨w.heap.size, 0, none⟩ = some (.int .i64 0) := (hB1.cell (p := ⟨w.heap.size, 0, none⟩) (by simp)).trans (by go_simp)
  have z1 : w1.cell? ⟨w.heap.size, 1, none⟩ = some (.int .i64 0) := (hB1.cell (p := ⟨w.heap.size, 1, none⟩) (by simp)).trans (by go_simp)
  have z2 : w1.cell? ⟨w.heap.size, 2, none⟩ = some (.int .i64 0) := (hB1.cell (p := ⟨w.heap.size, 2, none⟩) (by simp)).trans (by go_simp)
  have z3 : w1.cell? ⟨w.heap.size, 3, none⟩ = some (.int .i64 0) := (hB1.cell (p := ⟨w.heap.size, 3, none⟩) (by simp)).trans (by go_simp)
  have z4 : w1.cell? ⟨w.heap.size, 4, none⟩ = some (.int .i64 0) := (hB1.cell (p := ⟨w.heap.size, 4, none⟩) (by simp)).trans (by go_simp)
  have hz1 : w.heap.size < w1.heap.size := by have := hB1.size; simp at this; omega
  have HB1 : Hid (Below w.heap.size w w1) := ((Below.refl _ _).alloc (Nat.le_refl _) _).trans (hB1.mono (by simp))
  clear hB1
  cases ht : Pn.toks s.data.toList false with
  | none =>
    rw [ht] at ho
    have HD := hide (Pn.rd_none hsn ht)
    clear ht
    simp only [TokOut] at ho
    subst ho
    go_wp2_with fail
    refine bodyPost_ret (v := .tuple #[(Pn.Ins.mk 0 0 0 0 0).val, .int .i64 4]) (by simp [results, Tryz.results95, go_sem, z0, z1, z2, z3, z4, Pn.Ins.val]) rfl ⟨by rw [HD.out], below5 HB1.out _ _ _ _ _⟩
  | some A =>
    rw [ht] at ho
    simp only [TokOut] at ho
    obtain ⟨v, he, hown⟩ := ho
    subst he
    cases A with
    | nil =>
      have HD := hide (Pn.rd_nil hsn ht)
      clear ht
      have hv : ∃ ao cap, v = .slice ao 0 cap := by
        obtain ⟨_, h1 | ⟨g, cap, cur, hv, _⟩⟩ := hown
        · exact ⟨none, 0, h1.1⟩
        · exact ⟨_, _, hv⟩
      clear hown
      obtain ⟨ao, cap, hv⟩ := hv
      subst hv
      go_wp2_with fail
      refine bodyPost_ret (v := .tuple #[(Pn.Ins.mk 0 0 0 0 0).val, .int .i64 4]) (by simp [results, Tryz.results95, go_sem, z0, z1, z2, z3, z4, Pn.Ins.val]) rfl ⟨by rw [HD.out], below5 HB1.out _ _ _ _ _⟩
    | cons t l =>
      have hlen := Pn.toks_len _ _ _ _ (Nat.le_refl _) ht
      have hl : l.length ≤ 1999 := by simp at hlen; omega
      have HTT := hide ht
      clear hlen ht
      obtain ⟨g, cap, hv, hg, hcap, hcc⟩ := tok_cells hown
      clear hown
      subst hv
      have hnz : (((l.length + 1 : Nat) : Int) == 0) = false := by simp; omega
      have hnz2 : (((l.length : Int) + 1) == 0) = false := by simp; omega
      have HCC := hide hcc
      clear hcc
      have cb := Pn.cnt_bd s 10 s.size
      by_cases hc : 0 < Pn.cnt s 10 s.size
      · have HD := hide (Pn.rd_lf hsn (unhide HTT) hc)
        go_wp2_with (go_at_call 163; refine (count_is s 10 _ hs).mono ?_; rintro e w' ⟨rfl, rfl⟩)
        refine bodyPost_ret (v := .tuple #[(Pn.Ins.mk 0 0 0 0 0).val, .int .i64 4]) (by simp [results, Tryz.results95, go_sem, z0, z1, z2, z3, z4, Pn.Ins.val]) rfl ⟨by rw [HD.out], below5 HB1.out _ _ _ _ _⟩
      · go_wp2_with (go_at_call 163; refine (count_is s 10 _ hs).mono ?_; rintro e w' ⟨rfl, rfl⟩)
        refine (plain_in t l g 0 cap _ hl hg hcap (unhide HCC)).mono ?_
        rintro e w2 ⟨rfl, hB2⟩
        have x0 := (hB2.cell (p := ⟨w.heap.size, 0, none⟩) hz1).trans z0
        have x1 := (hB2.cell (p := ⟨w.heap.size, 1, none⟩) hz1).trans z1
        have x2 := (hB2.cell (p := ⟨w.heap.size, 2, none⟩) hz1).trans z2
        have x3 := (hB2.cell (p := ⟨w.heap.size, 3, none⟩) hz1).trans z3
        have x4 := (hB2.cell (p := ⟨w.heap.size, 4, none⟩) hz1).trans z4
        have xf : ∀ q, w2.frozen? ⟨w.heap.size, q, none⟩ = false := fun q => (hB2.frozen (p := ⟨w.heap.size, q, none⟩) hz1).trans (zf q)
        have hz2 : w.heap.size < w2.heap.size := by have := hB2.size; omega
        have HB2 : Hid (Below w.heap.size w w2) := HB1.out.trans (hB2.mono (by omega))
        have HOK := hide (fun hp => Pn.rd_ok hsn (unhide HTT) (by omega) hp)
        have HNO := hide (fun hp => Pn.rd_bad hsn (unhide HTT) (by omega) hp)
        clear hB2 z0 z1 z2 z3 z4 zf
        generalize Pn.plain t l false = R at *
        obtain ⟨I, nm, er⟩ := R
        obtain ⟨op, rd, rs1, rs2, imm⟩ := I
        unfold pieceVal
        simp only
        by_cases he : (er != 0) = false
        · have HD := hide (unhide HOK (by simpa using he))
          clear HOK HNO
          go_wp2_with fail
          refine bodyPost_ret (v := .tuple #[(Pn.Ins.mk op rd rs1 rs2 imm).val, .int .i64 0]) (by simp [results, Tryz.results95, go_sem, x0, x1, x2, x3, x4, hz2, Pn.Ins.val]) rfl ⟨by rw [HD.out], ?_⟩
          exact (below5 HB2.out _ _ _ _ _).alloc (by simp [World.setCell]; omega) _
        · have he' : (er != 0) = true := by simpa using he
          have HD := hide (unhide HNO (by simpa using he'))
          clear HOK HNO he
          go_wp2_with fail
          refine bodyPost_ret (v := .tuple #[(Pn.Ins.mk 0 0 0 0 0).val, .int .i64 er]) (by simp [results, Tryz.results95, go_sem, x0, x1, x2, x3, x4, hz2, Pn.Ins.val]) rfl ⟨by rw [HD.out], ?_⟩
          exact (below5 HB2.out _ _ _ _ _).alloc (by simp [World.setCell]; omega) _

theorem read_long (s : ByteArray) (w : World) (hs : 2000 < s.size) :
    Calls Tryz.prog 95 #[.string s] w fun e w' => e = .returned (.tuple #[(Pn.Ins.mk 0 0 0 0 0).val, .int .i64 4]) ∧ Below w.heap.size w w' := by
  have hs2 : (2000 : Int) < s.size := by omega
  go_enter Tryz.func95, Tryz.ntmps95
  go_wp2_with fail
  exact bodyPost_ret (v := .tuple #[(Pn.Ins.mk 0 0 0 0 0).val, .int .i64 4]) (by simp [results, Tryz.results95, go_sem, Pn.Ins.val]) rfl ⟨rfl, (Below.refl _ _).alloc (Nat.le_refl _) _⟩

theorem read_any (s : ByteArray) (w : World) :
    Calls Tryz.prog 95 #[.string s] w fun e w' => e = .returned (.tuple #[(Pn.rd s).1.val, .int .i64 (Pn.rd s).2]) ∧ Below w.heap.size w w' := by
  by_cases h : 2000 < s.size
  · rw [Pn.rd_long h]; exact read_long s w h
  · exact read_in s w (by omega)

end Go.Proofs.YtbmcofdodfcnnaaGreatDoor
