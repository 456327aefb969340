import Derived.Test.YtbmcofdodfcnnaaGreatDoorAL
namespace Go.Proofs.YtbmcofdodfcnnaaGreatDoor
open Go.RowKit Go.Maps
/-- the parts, with four bytes each -/
def apl (is : List Pn.Ins) : List Pt := sz4 (rpl is) is.length
theorem apl_len (is : List Pn.Ins) : (apl is).length = is.length := by rw [apl, sz4_len, rpl_len]
theorem apl_at (is : List Pn.Ins) (k : Nat) (i : Pn.Ins) (h : is[k]? = some i) : (apl is)[k]? = some (i, [], (k : Int) + 1, 4) := by
  have hk : k < is.length := by
    rcases Nat.lt_or_ge k is.length with h' | h'
    · exact h'
    · rw [List.getElem?_eq_none h'] at h; cases h
  rw [apl, sz4_at _ _ _ _ (rpl_at is k i h), if_pos hk]
theorem apl_mem (is : List Pn.Ins) (x : Pt) (hx : x ∈ apl is) : x.1 ∈ is ∧ x.2.1 = [] ∧ x.2.2.2 = 4 := by
  obtain ⟨k, hk⟩ := List.getElem?_of_mem hx
  have hkl : k < is.length := by
    rcases Nat.lt_or_ge k (apl is).length with h | h
    · rwa [apl_len] at h
    · rw [List.getElem?_eq_none h] at hk; cases hk
  rw [apl_at is k _ (List.getElem?_eq_getElem hkl)] at hk
  cases hk
  exact ⟨List.getElem_mem hkl, rfl, rfl⟩
theorem apl_psz (is : List Pn.Ins) : ∀ k, k ≤ is.length → psz (apl is) k = 4 * (k : Int)
  | 0, _ => rfl
  | k + 1, h => by
    have hx := apl_at is k _ (List.getElem?_eq_getElem (show k < is.length by omega))
    simp only [psz, hx]
    rw [apl_psz is k (by omega)]
    omega
theorem rpl_tg (is : List Pn.Ins) (x : Pt) (hx : x ∈ rpl is) : x.2.1 = [] := by
  obtain ⟨k, hk⟩ := List.getElem?_of_mem hx
  have hkl : k < is.length := by
    rcases Nat.lt_or_ge k (rpl is).length with h | h
    · rwa [rpl_len] at h
    · rw [List.getElem?_eq_none h] at hk; cases hk
  rw [rpl_at is k _ (List.getElem?_eq_getElem hkl)] at hk
  cases hk
  rfl
set_option maxRecDepth 20000 in
set_option maxHeartbeats 4000000 in
theorem assemble_ins (s : ByteArray) (is : List Pn.Ins) (w : World) (hs : s.size ≤ 2000) (hi0 : 0 < is.length) (hi1 : 4 * is.length ≤ 1024) (hen : ∀ i ∈ is, (Pn.enc i).2 = 0)
    (HRP : ∀ W, Below w.heap.size w W → Calls Tryz.prog 79 #[.string s] W fun e w' => ∃ v mb, e = .returned (.tuple #[.agg #[v, .map (some mb)], .agg #[.int .i64 0, .int .i64 0]]) ∧ w'.ownsRow W.heap.size 202 9 v is.length ((rpl is).flatMap ptC) ∧ Below W.heap.size W w') :
    Calls Tryz.prog 42 #[.string s, .bool false] w fun e w' => e = .returned (.tuple #[.string ⟨(pby (apl is) is.length).toArray⟩, .agg #[.int .i64 0, .int .i64 0]]) ∧ Below w.heap.size w w' := by
  have HR := hid (HRP _ ((Below.refl _ _).alloc (Nat.le_refl _) (.cells #[.int .i64 0, .int .i64 0] 39)))
  have HEN := hid hen
  clear HRP hen
  have hs' : (s.size : Int) ≤ 2000 := by omega
  go_enter Tryz.func42, Tryz.ntmps42
  go_wp2_with fail
  refine HR.out.mono ?_
  rintro e w1 ⟨v, mb, rfl, hown, hB1⟩
  have ho : w1.ownsRow (w.alloc (.cells #[.int .i64 0, .int .i64 0] 39)).heap.size 202 9 v (rpl is).length ((rpl is).flatMap ptC) := by rw [rpl_len]; exact hown
  obtain ⟨g, cap, rfl, hg, hgl, hfg, hat⟩ := own_parts ho (by rw [rpl_len]; exact hi0)
  rw [rpl_len] at ho
  have HF1 := hid ((CellsAt.new w [.int .i64 0, .int .i64 0] 39).next hB1)
  have HB1 : Hid (Below w.heap.size w w1) := hid (((Below.refl _ _).alloc (Nat.le_refl _) _).trans (hB1.mono (by simp)))
  rw [World.size_alloc] at hg
  clear hB1 hown ho HR
  have HPG : Hid (PgAt w1.heap.size g cap (.map (some mb)) (rpl is) ((w1.alloc (.cells #[.slice (some ⟨g, 0, none⟩) (rpl is).length cap, .map (some mb)] 148)).alloc (.cells #[.int .i64 0, .int .i64 0] 39))) := hid (by
    have hc := (CellsAt.new w1 [.slice (some ⟨g, 0, none⟩) (rpl is).length cap, .map (some mb)] 148).alloc (.cells #[.int .i64 0, .int .i64 0] 39)
    have hB : Below w1.heap.size w1 ((w1.alloc (.cells #[.slice (some ⟨g, 0, none⟩) (rpl is).length cap, .map (some mb)] 148)).alloc (.cells #[.int .i64 0, .int .i64 0] 39)) := ((Below.refl _ _).alloc (Nat.le_refl _) _).alloc (by rw [World.size_alloc]; omega) _
    exact ⟨hc.2.2 0 _ rfl, hc.2.2 1 _ rfl, hc.1, Nat.lt_of_lt_of_le hgl hB.size, by omega, hc.2.1, fun q => (hB.frozen (p := ⟨g, q, none⟩) hgl).trans (hfg q), fun k x hk j u hj => (hB.cell (p := ⟨g, k * 9 + j, none⟩) hgl).trans (hat k x hk j u hj)⟩)
  have HFF := hid ((HF1.out.alloc (.cells #[.slice (some ⟨g, 0, none⟩) (rpl is).length cap, .map (some mb)] 148)).alloc (.cells #[.int .i64 0, .int .i64 0] 39))
  have HBB : Hid (Below w.heap.size w ((w1.alloc (.cells #[.slice (some ⟨g, 0, none⟩) (rpl is).length cap, .map (some mb)] 148)).alloc (.cells #[.int .i64 0, .int .i64 0] 39))) := hid ((HB1.out.alloc HB1.out.size _).alloc (by rw [World.size_alloc]; have := HB1.out.size; omega) _)
  have hbw := HF1.out.1
  clear hat hfg HF1 HB1
  go_wp2_with fail
  generalize (w1.alloc (.cells #[.slice (some ⟨g, 0, none⟩) (rpl is).length cap, .map (some mb)] 148)).alloc (.cells #[.int .i64 0, .int .i64 0] 39) = W at *
  have HLO := hid (layOut_long w1.heap.size g cap (.map (some mb)) (rpl is) W HPG.out (rpl_tg is) (by rw [rpl_len]; omega) (by
    intro k hk
    rw [rpl_len] at hk ⊢
    have := apl_psz is k hk
    unfold apl at this
    omega))
  rw [rpl_len] at HLO
  refine HLO.out.mono ?_
  rintro e w2 ⟨v, rfl, hown, hpg, hkp⟩
  have hown' : w2.ownsRow W.heap.size 3 1 v (plcs (apl is) is.length).length (ints (plcs (apl is) is.length)) := hown
  obtain ⟨ao, cp, rfl, hIA⟩ := own_ints hown'
  obtain ⟨q, rfl, hq1, hq2, hqc⟩ := hIA.at' is.length (by rw [plcs_len]; omega)
  rw [plcs_at _ _ _ (Nat.le_refl _), apl_psz is _ (Nat.le_refl _)] at hqc
  rw [plcs_len] at *
  have HPG2 : Hid (PgAt w1.heap.size g cap (.map (some mb)) (apl is) w2) := hid hpg
  have c0 := HPG2.out.c0
  rw [apl_len] at c0
  have hbl := HPG2.out.bl
  have HBY := hid (fun sl => pbytes_long w1.heap.size g cap (.map (some mb)) sl (apl is) w2 HPG2.out (fun x hx => ⟨(apl_mem is x hx).2.1, (apl_mem is x hx).2.2, HEN.out _ (apl_mem is x hx).1⟩) (by rw [apl_len]; omega))
  rw [apl_len] at HBY
  have HB2 : Hid (Below w.heap.size w w2) := hid (hkp.below HBB.out (by omega) (Nat.le_refl _))
  have HF2 : Hid (CellsAt w.heap.size [.int .i64 0, .int .i64 0] w2) := hid (by
    have e := hkp.block w.heap.size HFF.out.1 (by omega)
    exact ⟨Nat.lt_of_lt_of_le HFF.out.1 hkp.size, fun p => (World.frozen?_of_block (a := ⟨w.heap.size, p, none⟩) e).trans (HFF.out.2.1 p), fun j u hj => (World.cell?_of_block (a := ⟨w.heap.size, j, none⟩) e).trans (HFF.out.2.2 j u hj)⟩)
  clear hown hown' hpg hkp hIA HLO HPG HFF HBB
  have hlt1 : (is.length : Int) < ((is.length + 1 : Nat) : Int) := by omega
  have hlt2 : (is.length : Int) < (is.length : Int) + 1 := by omega
  have hlt3 : 4 * (is.length : Int) ≤ 1024 := by omega
  go_wp2_with fail
  refine (HBY.out _).mono ?_
  rintro e w3 ⟨rfl, hB3⟩
  have q0 := (HF2.out.next hB3).2.2 0 _ rfl
  have q1 := (HF2.out.next hB3).2.2 1 _ rfl
  have qf := (HF2.out.next hB3).2.1
  have HB3 := hid (HB2.out.trans (hB3.mono HB2.out.size))
  clear hB3 HBY c0 hqc
  go_wp2_with fail
  refine bodyPost_ret (v := .tuple #[.string ⟨(pby (apl is) is.length).toArray⟩, .agg #[.int .i64 0, .int .i64 0]]) (by simp [results, Tryz.results42, go_sem, q0, q1]) rfl ⟨rfl, ?_⟩
  exact (HB3.out.setCell (by simp) _).setCell (by simp) _
end Go.Proofs.YtbmcofdodfcnnaaGreatDoor

namespace Go.Proofs.YtbmcofdodfcnnaaGreatDoor
open Go.RowKit Go.Maps
/-- the text that awake assembles -/
def awT : ByteArray := ⟨#[97, 100, 100, 105, 32, 120, 53, 44, 32, 120, 48, 44, 32, 55, 10, 101, 98, 114, 101, 97, 107]⟩
def awL0 : ByteArray := ⟨#[97, 100, 100, 105, 32, 120, 53, 44, 32, 120, 48, 44, 32, 55]⟩
def awL1 : ByteArray := ⟨#[101, 98, 114, 101, 97, 107]⟩
def awI0 : Pn.Ins := ⟨29, 5, 0, 0, 7⟩
def awI1 : Pn.Ins := ⟨64, 0, 0, 0, 0⟩
theorem awT_split : Lib.splitB ⟨#[10]⟩ 0 (Lib.countB awT ⟨#[10]⟩) awT = [awL0, awL1] := by kernel_rfl
theorem aw_cut0 : Pn.cutM (Lib.cut awL0.data.toList [35]).1 0 [] = some [(1, [97, 100, 100, 105]), (1, [120, 53]), (3, [44]), (1, [120, 48]), (3, [44]), (2, [55])] := by kernel_rfl
theorem aw_cut1 : Pn.cutM (Lib.cut awL1.data.toList [35]).1 0 [] = some [(1, [101, 98, 114, 101, 97, 107])] := by kernel_rfl
theorem aw_rin0 : Pn.rin 28 [(1, [120, 53]), (3, [44]), (1, [120, 48]), (3, [44]), (2, [55])] = (Pn.partCells awI0 [], 0) := by kernel_rfl
theorem aw_rin1 : Pn.rin 63 [] = (Pn.partCells awI1 [], 0) := by kernel_rfl
theorem aw_line0 (W : World) (hE : Env W) : Calls Tryz.prog 193 #[.string awL0] W fun e w' => ∃ g, e = .returned (.tuple #[.agg #[.string ⟨#[]⟩, .slice (some ⟨g, 0, none⟩) 1 1], .int .i64 0]) ∧ W.heap.size ≤ g ∧ CellsAt g (Pn.partCells awI0 []) w' ∧ Below W.heap.size W w' :=
  readLine_ins awL0 W (by decide) hE 1 [97, 100, 100, 105] _ aw_cut0 (by intro p hp; cases hp; decide) (by decide) 28 awI0 [] (by decide) (by kernel_rfl) aw_rin0 (by decide) (by decide) (by decide)
theorem aw_line1 (W : World) (hE : Env W) : Calls Tryz.prog 193 #[.string awL1] W fun e w' => ∃ g, e = .returned (.tuple #[.agg #[.string ⟨#[]⟩, .slice (some ⟨g, 0, none⟩) 1 1], .int .i64 0]) ∧ W.heap.size ≤ g ∧ CellsAt g (Pn.partCells awI1 []) w' ∧ Below W.heap.size W w' :=
  readLine_ins awL1 W (by decide) hE 1 [101, 98, 114, 101, 97, 107] _ aw_cut1 (by intro p hp; cases hp) (by decide) 63 awI1 [] (by decide) (by kernel_rfl) aw_rin1 (by decide) (by decide) (by decide)
theorem aw_asm (w : World) (hE : Env w) :
    Calls Tryz.prog 42 #[.string awT, .bool false] w fun e w' => e = .returned (.tuple #[.string ⟨#[147, 2, 112, 0, 115, 0, 16, 0]⟩, .agg #[.int .i64 0, .int .i64 0]]) ∧ Below w.heap.size w w' := by
  have h := assemble_ins awT [awI0, awI1] w (by decide) (by decide) (by decide) (by decide) (fun W hB => readProgram_ins awT [awL0, awL1] [awI0, awI1] W (hE.below hB hE.1) (by decide) awT_split rfl (by
    intro j t i ht hi W2 hE2
    match j, ht, hi with
    | 0, ht, hi => cases ht; cases hi; exact aw_line0 W2 hE2
    | 1, ht, hi => cases ht; cases hi; exact aw_line1 W2 hE2
    | j + 2, ht, hi => cases ht))
  have e : pby (apl [awI0, awI1]) [awI0, awI1].length = [147, 2, 112, 0, 115, 0, 16, 0] := by kernel_rfl
  rw [e] at h
  exact h
end Go.Proofs.YtbmcofdodfcnnaaGreatDoor
