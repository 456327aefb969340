import Derived.Test.YtbmcofdodfcnnaaGreatDoorGVC
import Derived.Test.YtbmcofdodfcnnaaGreatDoorGQ
namespace Go.Proofs.YtbmcofdodfcnnaaGreatDoor
open Go.RowKit

theorem lread_long (s : ByteArray) (w : World) (h : 2000 < s.size) :
    Calls Tryz.prog 39 #[.string s] w fun e w' => e = .returned (.tuple #[(Pn.Ins.mk 0 0 0 0 0).val, .int .i64 4]) ∧ Below w.heap.size w w' := by
  have h' : (2000 : Int) < s.size := by omega
  go_enter Tryz.func39, Tryz.ntmps39
  go_wp2_with fail
  exact bodyPost_ret (v := .tuple #[(Pn.Ins.mk 0 0 0 0 0).val, .int .i64 4]) (by simp [results, Tryz.results39, go_sem, Pn.Ins.val]) rfl ⟨rfl, (Below.refl _ _).alloc (Nat.le_refl _) _⟩

theorem lread_lf (s : ByteArray) (w : World) (h : ¬ 2000 < s.size) (hl : 0 ≤ Lib.indexByte s.data.toList 10) :
    Calls Tryz.prog 39 #[.string s] w fun e w' => e = .returned (.tuple #[(Pn.Ins.mk 0 0 0 0 0).val, .int .i64 4]) ∧ Below w.heap.size w w' := by
  have h' : ¬ (2000 : Int) < s.size := by omega
  have hd : decide (0 ≤ Lib.indexByte s.data.toList 10) = true := decide_eq_true hl
  clear hl
  go_enter Tryz.func39, Tryz.ntmps39
  go_wp2_with fail
  refine (Tryz.strings_Contains_one s 10 _).mono ?_
  rintro e w1 ⟨rfl, rfl⟩
  rw [hd]
  go_wp2_with fail
  exact bodyPost_ret (v := .tuple #[(Pn.Ins.mk 0 0 0 0 0).val, .int .i64 4]) (by simp [results, Tryz.results39, go_sem, Pn.Ins.val]) rfl ⟨rfl, (Below.refl _ _).alloc (Nat.le_refl _) _⟩

/-- what Read's last statement finds -/
structure RA (w0 : World) (ao : Option Addr) (g : Nat) (t : List UInt8) (l : List Pn.Pc) (W : World) : Prop where
  env : Env W
  pcs : PcsAt ao l W.heap.size W
  res : CellsAt w0.heap.size zI W
  below : Below w0.heap.size w0 W
  lt : g < W.heap.size
  far : g ≠ w0.heap.size
  text : W.cell? ⟨g, 1, none⟩ = some (.string ⟨t.toArray⟩)
theorem RA.next {w0 : World} {ao : Option Addr} {g : Nat} {t : List UInt8} {l : List Pn.Pc} {W W' : World} (h : RA w0 ao g t l W) (hB : Below W.heap.size W W') : RA w0 ao g t l W' :=
  ⟨h.env.below hB h.env.1, h.pcs.move hB _ hB.size, h.res.next hB, h.below.trans (hB.mono h.below.size), Nat.lt_of_lt_of_le h.lt hB.size, h.far, (hB.cell (p := ⟨g, 1, none⟩) h.lt).trans h.text⟩
theorem readPlain_ra (nm : ByteArray) (cp : Nat) {w0 : World} {ao : Option Addr} {g n : Nat} {t : List UInt8} {l : List Pn.Pc} {W : World} (h : RA w0 ao g t l W) (hn : l.length = n) :
    Calls Tryz.prog 74 #[.string nm, .slice ao n cp] W fun e w' => ∃ op rd rs1 rs2 imm er, Hid (Pn.pplain nm l = (⟨op, rd, rs1, rs2, imm⟩, er)) ∧ e = .returned (.tuple #[.agg #[.int .i64 op, .int .i64 rd, .int .i64 rs1, .int .i64 rs2, .int .i64 imm], .int .i64 er]) ∧ RA w0 ao g t l w' := by
  subst hn
  exact (readPlain_is nm l _ cp W h.env h.pcs).mono fun _ _ ⟨he, hB⟩ => ⟨_, _, _, _, _, _, rfl, he, h.next hB⟩
theorem ra_of {w w2 : World} {v : Value} {p : Pn.Pc} {l : List Pn.Pc} {base : Nat} (hown : w2.ownsRow base 131 2 v (p :: l).length ((p :: l).flatMap Pn.pcCells)) (hb : w.heap.size < base) (hE : Env w2) (hZ : CellsAt w.heap.size zI w2) (hB : Below w.heap.size w w2)
    (hlen : ∀ q ∈ p :: l, q.2.length ≤ 2000) : ∃ g cap, v = .slice (some ⟨g, 0, none⟩) (l.length + 1) cap ∧ l.length + 1 ≤ cap ∧ RA w (some ⟨g, 2, none⟩) g p.2 l w2 := by
  have hh := hown
  obtain ⟨_, h1 | ⟨g, cap, cur, hv, hg, hc, hle, _⟩⟩ := hown
  · have := h1.2; simp at this
  · have hlt : g < w2.heap.size := (hh.lt g (by rw [hv]; rfl)).2
    have key : ∀ k j q, j < 2 → (p :: l)[k]? = some q → w2.cell? ⟨g, k * 2 + j, none⟩ = (Pn.pcCells q)[j]? := fun k j q hj hq => by
      have hk : k < (p :: l).length := by
        rcases Nat.lt_or_ge k (p :: l).length with h | h
        · exact h
        · rw [List.getElem?_eq_none h] at hq; cases hq
      have hf := Pn.flat_get Pn.pcCells 2 (fun _ => rfl) (p :: l) k j hj hk
      rw [hq] at hf
      have hx : (Pn.pcCells q)[j]? = some ((Pn.pcCells q)[j]'(by simp [Pn.pcCells]; omega)) := List.getElem?_eq_getElem _
      simp only [Option.bind_some] at hf
      have := hh.cells (g := g) (by rw [hv]; rfl) (2 * k + j) _ (hf.trans hx)
      rw [hx, ← this]
      have e : (⟨g, 0, none⟩ : Addr).add (2 * k + j) = ⟨g, k * 2 + j, none⟩ := by
        simp only [Addr.add]
        rw [Nat.mul_comm 2 k]; simp; omega
      rw [e]
    refine ⟨g, cap, by rw [hv]; rfl, by simpa using hle, hE, fun i q hi => ?_, hZ, hB, hlt, by omega, ?_⟩
    · have hi' : (p :: l)[i + 1]? = some q := by simpa using hi
      have e0 := key (i + 1) 0 q (by omega) hi'
      have e1 := key (i + 1) 1 q (by omega) hi'
      refine ⟨g, 2, rfl, hlt, by omega, hlen q (List.mem_of_getElem? hi'), ?_, ?_⟩
      · have : 2 + i * 2 = (i + 1) * 2 + 0 := by omega
        rw [this]; exact e0
      · have : 2 + i * 2 + 1 = (i + 1) * 2 + 1 := by omega
        rw [this]; exact e1
    · exact key 0 1 p (by omega) rfl

set_option maxRecDepth 100000 in
set_option maxHeartbeats 8000000 in
theorem lread_in (s : ByteArray) (w : World) (h : ¬ 2000 < s.size) (hl : ¬ 0 ≤ Lib.indexByte s.data.toList 10) (hE : Env w) :
    Calls Tryz.prog 39 #[.string s] w fun e w' => e = .returned (.tuple #[(Pn.prd s).1.val, .int .i64 (Pn.prd s).2]) ∧ Below w.heap.size w w' := by
  have h' : ¬ (2000 : Int) < s.size := by omega
  have hs : s.size ≤ 2000 := by omega
  have hd : decide (0 ≤ Lib.indexByte s.data.toList 10) = false := decide_eq_false hl
  have HPR : Hid (Pn.prd s = match Pn.cutM (Lib.cut s.data.toList [35]).1 0 [] with
    | none => (⟨0, 0, 0, 0, 0⟩, 4)
    | some [] => (⟨0, 0, 0, 0, 0⟩, 4)
    | some (p :: l) => Pn.pplain ⟨p.2.toArray⟩ l) := by
    show _ = _
    unfold Pn.prd
    rw [if_neg (by rintro (a | a); exact h a; exact hl a)]
    rfl
  have HE := hide (fun o => hE.alloc o)
  clear hl h
  go_enter Tryz.func39, Tryz.ntmps39
  go_wp2_with fail
  refine (Tryz.strings_Contains_one s 10 _).mono ?_
  rintro e w1 ⟨rfl, rfl⟩
  rw [hd]
  go_wp2_with fail
  refine (cut_is s _ hs (HE.out _)).mono ?_
  rintro e w2 ⟨ho, hB2⟩
  have HZ2 := hide ((CellsAt.new w zI 26).next hB2)
  have HB2 := hide (((Below.refl w.heap.size w).alloc (Nat.le_refl _) _).trans (hB2.mono (by simp)))
  have HE2 : Hid (Env w2) := Env.below (HE.out _) hB2 (HE.out _).1
  obtain ⟨hzz, yf, yc⟩ := HZ2.out
  have y0 := yc 0 _ rfl
  have y1 := yc 1 _ rfl
  have y2 := yc 2 _ rfl
  have y3 := yc 3 _ rfl
  have y4 := yc 4 _ rfl
  clear yc hB2
  cases hc : Pn.cutM (Lib.cut s.data.toList [35]).1 0 [] with
  | none =>
    rw [hc] at HPR ho
    simp only [CutOut] at ho
    subst ho
    go_wp2_with fail
    refine bodyPost_ret (v := .tuple #[(Pn.Ins.mk 0 0 0 0 0).val, .int .i64 4]) (by simp [results, Tryz.results39, go_sem, y0, y1, y2, y3, y4, Pn.Ins.val]) rfl ⟨by rw [HPR.out], below5'' HB2.out _ _ _ _ _⟩
  | some A =>
    rw [hc] at HPR ho
    simp only [CutOut] at ho
    obtain ⟨v, he, hown⟩ := ho
    subst he
    cases A with
    | nil =>
      have hv : ∃ ao cap, v = .slice ao 0 cap := by
        obtain ⟨_, h1 | ⟨g, cap, cur, hv, _⟩⟩ := hown
        · exact ⟨none, 0, h1.1⟩
        · exact ⟨_, _, hv⟩
      clear hown
      obtain ⟨ao, cap, hv⟩ := hv
      subst hv
      go_wp2_with fail
      refine bodyPost_ret (v := .tuple #[(Pn.Ins.mk 0 0 0 0 0).val, .int .i64 4]) (by simp [results, Tryz.results39, go_sem, y0, y1, y2, y3, y4, Pn.Ins.val]) rfl ⟨by rw [HPR.out], below5'' HB2.out _ _ _ _ _⟩
    | cons p l =>
      have hRA : ∃ g cap, v = .slice (some ⟨g, 0, none⟩) (l.length + 1) cap ∧ l.length + 1 ≤ cap ∧ RA w (some ⟨g, 2, none⟩) g p.2 l w2 :=
        ra_of hown (by simp) HE2.out HZ2.out HB2.out (fun q hq => by
          have h1 := Pn.cutM_len _ _ _ _ hc q hq
          have h2 : (Lib.cut s.data.toList [35]).1.length ≤ s.data.toList.length := by
            unfold Lib.cut; split
            · simp; omega
            · simp
          have e : s.data.toList.length = s.size := by simp
          simp at h1 h2; omega)
      obtain ⟨g, cap, hv, hcap, hra⟩ := hRA
      clear hown
      subst hv
      have hnz : (((l.length + 1 : Nat) : Int) == 0) = false := by simp; omega
      have hnz2 : (((l.length : Int) + 1) == 0) = false := by simp; omega
      have tx := hra.text
      have hfar : w.heap.size ≠ g := fun e => hra.far e.symm
      have hcap2 : (l.length : Int) + 1 ≤ cap := by omega
      clear y0 y1 y2 y3 y4 yf hzz
      by_cases hc1 : cap = 1
      · have hl0 : l = [] := by cases l with | nil => rfl | cons a b => simp at hcap; omega
        subst hl0
        subst hc1
        have hra0 : ∀ ao, RA w ao g p.2 [] w2 := fun ao => ⟨hra.env, fun i q hi => by simp at hi, hra.res, hra.below, hra.lt, hra.far, hra.text⟩
        go_wp2_with fail
        go_region_held3 (fun w' => w'.cell? ⟨g, 1, none⟩ = some (.string ⟨p.2.toArray⟩)) (first | (exact RA.text (by assumption)) | go_keep)
          (first | (go_at_call 74; refine (readPlain_ra (w0 := w) (g := g) (t := p.2) (l := []) _ _ (by first | assumption | exact RA.next (hra0 _) (drewN_below _ _)) rfl).mono ?_; rintro e w' ⟨op, rd, rs1, rs2, imm, er, HPP, rfl, hra'⟩; obtain ⟨zz, xf, xc⟩ := hra'.res; have x0 := xc 0 _ rfl; have x1 := xc 1 _ rfl; have x2 := xc 2 _ rfl; have x3 := xc 3 _ rfl; have x4 := xc 4 _ rfl; clear xc))
        have HB9 := hide hra'.below
        clear hra'
        go_wp2_with fail
        refine bodyPost_ret (v := .tuple #[(Pn.Ins.mk op rd rs1 rs2 imm).val, .int .i64 er]) (by simp [results, Tryz.results39, go_sem, x0, x1, x2, x3, x4, Pn.Ins.val]) rfl ⟨by first | rw [HPR.out, HPP.out] | (rw [HPR.out]; simp only; rw [HPP.out]), below5'' HB9.out _ _ _ _ _⟩
      · have h01 : (1 : Int) ≤ (l.length : Int) + 1 := by omega
        have h02 : ((l.length + 1 : Nat) : Int) ≤ cap := by omega
        go_wp2_with fail
        go_region_held3 (fun w' => w'.cell? ⟨g, 1, none⟩ = some (.string ⟨p.2.toArray⟩)) (first | (exact RA.text (by assumption)) | go_keep)
          (first | (go_at_call 74; refine (readPlain_ra _ _ (by first | assumption | exact RA.next hra (drewN_below _ _)) rfl).mono ?_; rintro e w' ⟨op, rd, rs1, rs2, imm, er, HPP, rfl, hra'⟩; obtain ⟨zz, xf, xc⟩ := hra'.res; have x0 := xc 0 _ rfl; have x1 := xc 1 _ rfl; have x2 := xc 2 _ rfl; have x3 := xc 3 _ rfl; have x4 := xc 4 _ rfl; clear xc))
        have HB9 := hide hra'.below
        clear hra'
        go_wp2_with fail
        refine bodyPost_ret (v := .tuple #[(Pn.Ins.mk op rd rs1 rs2 imm).val, .int .i64 er]) (by simp [results, Tryz.results39, go_sem, x0, x1, x2, x3, x4, Pn.Ins.val]) rfl ⟨by first | rw [HPR.out, HPP.out] | (rw [HPR.out]; simp only; rw [HPP.out]), below5'' HB9.out _ _ _ _ _⟩
theorem lread_any (s : ByteArray) (w : World) (hE : Env w) :
    Calls Tryz.prog 39 #[.string s] w fun e w' => e = .returned (.tuple #[(Pn.prd s).1.val, .int .i64 (Pn.prd s).2]) ∧ Below w.heap.size w w' := by
  by_cases h : 2000 < s.size
  · have e : Pn.prd s = (⟨0, 0, 0, 0, 0⟩, 4) := by unfold Pn.prd; rw [if_pos (Or.inl h)]
    rw [e]; exact lread_long s w h
  · by_cases hl : 0 ≤ Lib.indexByte s.data.toList 10
    · have e : Pn.prd s = (⟨0, 0, 0, 0, 0⟩, 4) := by unfold Pn.prd; rw [if_pos (Or.inr hl)]
      rw [e]; exact lread_lf s w h hl
    · exact lread_in s w h hl hE

theorem pread_any (s : ByteArray) (w : World) (hE : Env w) :
    Calls Tryz.prog 18 #[.string s] w fun e w' => e = .returned (.tuple #[(Pn.prd s).1.val, .int .i64 (Pn.prd s).2]) ∧ Below w.heap.size w w' := by
  have HE := hide (fun o => hE.alloc o)
  go_enter Tryz.func18, Tryz.ntmps18
  go_wp2_with fail
  refine (lread_any s _ (HE.out _)).mono ?_
  rintro e w1 ⟨rfl, hB1⟩
  obtain ⟨hz1, yf, yc⟩ := (CellsAt.new w zI 26).next hB1
  have y0 := yc 0 _ rfl
  have y1 := yc 1 _ rfl
  have y2 := yc 2 _ rfl
  have y3 := yc 3 _ rfl
  have y4 := yc 4 _ rfl
  have HB1 : Hid (Below w.heap.size w w1) := ((Below.refl _ _).alloc (Nat.le_refl _) _).trans (hB1.mono (by simp))
  clear hB1 yc
  generalize hD : Pn.prd s = D
  have HD := (show Hid _ from hD)
  clear hD
  obtain ⟨⟨op, rd, rs1, rs2, imm⟩, er⟩ := D
  unfold Pn.Ins.val
  simp only
  go_wp2_with fail
  refine bodyPost_ret (v := .tuple #[(Pn.Ins.mk op rd rs1 rs2 imm).val, .int .i64 er]) (by simp [results, Tryz.results18, go_sem, y0, y1, y2, y3, y4, Pn.Ins.val]) rfl ⟨by rw [HD.out], below5'' HB1.out _ _ _ _ _⟩

end Go.Proofs.YtbmcofdodfcnnaaGreatDoor
