import Derived.Test.YtbmcofdodfcnnaaGreatDoorGVC
import Derived.Test.YtbmcofdodfcnnaaGreatDoorGFA
import Derived.Test.YtbmcofdodfcnnaaGreatDoorGV13
import Derived.Test.YtbmcofdodfcnnaaGreatDoorGU6
import Derived.Deep.RegionHeld3
namespace Pn
def dsz (l : List UInt8) : Int := if l = [46, 98, 121, 116, 101] then 1 else if l = [46, 104, 97, 108, 102] then 2 else if l = [46, 119, 111, 114, 100] then 4 else 0
end Pn
namespace Go.Proofs.YtbmcofdodfcnnaaGreatDoor
open Go.RowKit
theorem sizeOfData_is (nm : ByteArray) (w : World) : Calls Tryz.prog 259 #[.string nm] w fun e w' => e = .returned (.int .i64 (Pn.dsz nm.data.toList)) ∧ w' = w := by
  have ht : nm.toList = nm.data.toList := ByteArray.toList_eq nm
  by_cases h1 : nm.data.toList = [46, 98, 121, 116, 101]
  · have HV : Hid (Pn.dsz nm.data.toList = 1) := hid (by unfold Pn.dsz; rw [if_pos h1])
    have q1 : (nm.toList == [46, 98, 121, 116, 101]) = true := by rw [ht]; simpa using h1
    clear ht h1
    go_enter Tryz.func259, Tryz.ntmps259
    go_wp2_with fail
    go_ret
    exact ⟨by rw [HV.out]; rfl, rfl⟩
  · have q1 : (nm.toList == [46, 98, 121, 116, 101]) = false := by rw [ht]; simpa using h1
    by_cases h2 : nm.data.toList = [46, 104, 97, 108, 102]
    · have HV : Hid (Pn.dsz nm.data.toList = 2) := hid (by unfold Pn.dsz; rw [if_neg h1, if_pos h2])
      have q2 : (nm.toList == [46, 104, 97, 108, 102]) = true := by rw [ht]; simpa using h2
      clear ht h1 h2
      go_enter Tryz.func259, Tryz.ntmps259
      go_wp2_with fail
      go_ret
      exact ⟨by rw [HV.out]; rfl, rfl⟩
    · have q2 : (nm.toList == [46, 104, 97, 108, 102]) = false := by rw [ht]; simpa using h2
      by_cases h3 : nm.data.toList = [46, 119, 111, 114, 100]
      · have HV : Hid (Pn.dsz nm.data.toList = 4) := hid (by unfold Pn.dsz; rw [if_neg h1, if_neg h2, if_pos h3])
        have q3 : (nm.toList == [46, 119, 111, 114, 100]) = true := by rw [ht]; simpa using h3
        clear ht h1 h2 h3
        go_enter Tryz.func259, Tryz.ntmps259
        go_wp2_with fail
        go_ret
        exact ⟨by rw [HV.out]; rfl, rfl⟩
      · have HV : Hid (Pn.dsz nm.data.toList = 0) := hid (by unfold Pn.dsz; rw [if_neg h1, if_neg h2, if_neg h3])
        have q3 : (nm.toList == [46, 119, 111, 114, 100]) = false := by rw [ht]; simpa using h3
        clear ht h1 h2 h3
        go_enter Tryz.func259, Tryz.ntmps259
        go_wp2_with fail
        go_ret
        exact ⟨by rw [HV.out]; rfl, rfl⟩
theorem readStatement_ins (nm : ByteArray) (k : Nat) (l : List Pn.Pc) (ao : Option Addr) (cp : Nat) (i : Pn.Ins) (tg : List UInt8) (w : World) (hk : k < 64) (hf : (List.range 64).find? (Pn.byName nm) = some k) (hE : Env w) (hl : PcsAt ao l w.heap.size w)
    (hr : Pn.rin k l = (Pn.partCells i tg, 0)) (hc : Lib.hasPrefix nm.data.toList [99, 46] = false) (hd : Pn.dsz nm.data.toList = 0) (hli : (nm.toList == [108, 105]) = false) :
    Calls Tryz.prog 227 #[.string nm, .slice ao l.length cp] w fun e w' => ∃ g, e = .returned (.tuple #[.slice (some ⟨g, 0, none⟩) 1 1, .int .i64 0]) ∧ w.heap.size ≤ g ∧ CellsAt g (Pn.partCells i tg) w' ∧ Below w.heap.size w w' := by
  have HR := hid (readInstruction_is nm k l ao cp w hk hf hE hl)
  rw [hr] at HR
  clear hE hl hr hf
  go_enter Tryz.func227, Tryz.ntmps227
  go_wp2_with fail
  refine (Tryz.strings_CutPrefix nm ⟨#[99, 46]⟩ _).mono ?_
  rintro e w1 ⟨rfl, rfl⟩
  have hc' : Lib.hasPrefix nm.data.toList (ByteArray.mk #[99, 46]).data.toList = false := hc
  rw [hc']
  go_wp2_with fail
  refine (sizeOfData_is nm _).mono ?_
  rintro e w1 ⟨rfl, rfl⟩
  rw [hd]
  go_wp2_with fail
  refine HR.out.mono ?_
  rintro e w2 ⟨rfl, hB2⟩
  have hsz := hB2.size
  have HB2 := hid hB2
  clear hB2
  unfold Pn.partCells
  go_wp2_with fail
  go_ret2
  refine ⟨w2.heap.size + 1, rfl, by omega, ?_, (HB2.out.alloc hsz _).alloc (by rw [World.size_alloc]; omega) _⟩
  have := CellsAt.new (w2.alloc (.cells (Pn.partCells i tg).toArray 193)) (Pn.partCells i tg) 193
  rw [World.size_alloc] at this
  exact this
end Go.Proofs.YtbmcofdodfcnnaaGreatDoor
namespace Go.Proofs.YtbmcofdodfcnnaaGreatDoor
open Go.RowKit
theorem pc_of {w2 : World} {v : Value} {p : Pn.Pc} {l : List Pn.Pc} {base : Nat} (hown : w2.ownsRow base 131 2 v (p :: l).length ((p :: l).flatMap Pn.pcCells))
    (hlen : ∀ q ∈ p :: l, q.2.length ≤ 2000) : ∃ g cap, v = .slice (some ⟨g, 0, none⟩) (l.length + 1) cap ∧ l.length + 1 ≤ cap ∧ base ≤ g ∧ g < w2.heap.size ∧ w2.cell? ⟨g, 1, none⟩ = some (.string ⟨p.2.toArray⟩) ∧ PcsAt (some ⟨g, 2, none⟩) l w2.heap.size w2 := by
  have hh := hown
  obtain ⟨_, h1 | ⟨g, cap, cur, hv, hg, hc, hle, _⟩⟩ := hown
  · have := h1.2; simp at this
  · have hlt : g < w2.heap.size := (hh.lt g (by rw [hv]; rfl)).2
    have key : ∀ k j q, j < 2 → (p :: l)[k]? = some q → w2.cell? ⟨g, k * 2 + j, none⟩ = (Pn.pcCells q)[j]? := fun k j q hj hq => by
      have hk : k < (p :: l).length := by
        rcases Nat.lt_or_ge k (p :: l).length with h | h
        · exact h
        · rw [List.getElem?_eq_none h] at hq; cases hq
      have hf := Pn.flat_get Pn.pcCells 2 (fun _ => rfl) (p :: l) k j hj hk
      rw [hq] at hf
      have hx : (Pn.pcCells q)[j]? = some ((Pn.pcCells q)[j]'(by simp [Pn.pcCells]; omega)) := List.getElem?_eq_getElem _
      simp only [Option.bind_some] at hf
      have := hh.cells (g := g) (by rw [hv]; rfl) (2 * k + j) _ (hf.trans hx)
      rw [hx, ← this]
      have e : (⟨g, 0, none⟩ : Addr).add (2 * k + j) = ⟨g, k * 2 + j, none⟩ := by
        simp only [Addr.add]
        rw [Nat.mul_comm 2 k]; simp; omega
      rw [e]
    refine ⟨g, cap, by rw [hv]; rfl, by simpa using hle, hg, hlt, key 0 1 p (by omega) rfl, fun i q hi => ?_⟩
    have hi' : (p :: l)[i + 1]? = some q := by simpa using hi
    have e0 := key (i + 1) 0 q (by omega) hi'
    have e1 := key (i + 1) 1 q (by omega) hi'
    refine ⟨g, 2, rfl, hlt, by omega, hlen q (List.mem_of_getElem? hi'), ?_, ?_⟩
    · have : 2 + i * 2 = (i + 1) * 2 + 0 := by omega
      rw [this]; exact e0
    · have : 2 + i * 2 + 1 = (i + 1) * 2 + 1 := by omega
      rw [this]; exact e1
def lz : List Value := [.string ⟨#[]⟩, .slice none 0 0]
structure LA (w0 : World) (B : Nat) (ao : Option Addr) (g : Nat) (t : List UInt8) (l : List Pn.Pc) (W : World) : Prop where
  env : Env W
  pcs : PcsAt ao l W.heap.size W
  res : CellsAt w0.heap.size lz W
  ln : CellsAt B lz W
  below : Below w0.heap.size w0 W
  lt : g < W.heap.size
  text : W.cell? ⟨g, 1, none⟩ = some (.string ⟨t.toArray⟩)
theorem LA.next {w0 : World} {B : Nat} {ao : Option Addr} {g : Nat} {t : List UInt8} {l : List Pn.Pc} {W W' : World} (h : LA w0 B ao g t l W) (hB : Below W.heap.size W W') : LA w0 B ao g t l W' :=
  ⟨h.env.below hB h.env.1, h.pcs.move hB _ hB.size, h.res.next hB, h.ln.next hB, h.below.trans (hB.mono h.below.size), Nat.lt_of_lt_of_le h.lt hB.size, (hB.cell (p := ⟨g, 1, none⟩) h.lt).trans h.text⟩
structure LP (g : Nat) (i : Pn.Ins) (tg : List UInt8) (lo : Nat) (W : World) : Prop where
  c : CellsAt g (Pn.partCells i tg) W
  lo : lo ≤ g
theorem readStatement_la (nm : ByteArray) (k : Nat) (i : Pn.Ins) (tg : List UInt8) (hk : k < 64) (hf : (List.range 64).find? (Pn.byName nm) = some k) (hc : Lib.hasPrefix nm.data.toList [99, 46] = false) (hd : Pn.dsz nm.data.toList = 0) (hli : (nm.toList == [108, 105]) = false)
    (cp : Nat) {w0 : World} {B : Nat} {ao : Option Addr} {g n : Nat} {t : List UInt8} {l : List Pn.Pc} {W : World} (hr : Pn.rin k l = (Pn.partCells i tg, 0)) (h : LA w0 B ao g t l W) (hn : l.length = n) :
    Calls Tryz.prog 227 #[.string nm, .slice ao n cp] W fun e w' => ∃ q, e = .returned (.tuple #[.slice (some ⟨q, 0, none⟩) 1 1, .int .i64 0]) ∧ LP q i tg W.heap.size w' ∧ LA w0 B ao g t l w' := by
  subst hn
  exact (readStatement_ins nm k l ao cp i tg W hk hf h.env h.pcs hr hc hd hli).mono fun _ _ ⟨q, he, hq, hC, hB⟩ => ⟨q, he, ⟨hC, hq⟩, h.next hB⟩
end Go.Proofs.YtbmcofdodfcnnaaGreatDoor
namespace Go
open Go.RowKit
theorem CellsAt.far {b : Nat} {vs : List Value} {w : World} (h : CellsAt b vs w) (c q : Nat) (v : Value) (hc : c ≠ b) : CellsAt b vs (w.setCell ⟨c, q, none⟩ v) := by
  have e : (w.setCell ⟨c, q, none⟩ v).heap[b]? = w.heap[b]? := Below.heap_setCell _ _ _ _ (fun e => hc e.symm)
  exact ⟨by simpa [World.setCell] using h.1, fun p => (World.frozen?_of_block (a := ⟨b, p, none⟩) e).trans (h.2.1 p), fun j u hj => (World.cell?_of_block (a := ⟨b, j, none⟩) e).trans (h.2.2 j u hj)⟩
end Go
namespace Go.Proofs.YtbmcofdodfcnnaaGreatDoor
open Go.RowKit
theorem rl_end {w w1 W w' : World} {ao ao' : Option Addr} {g q : Nat} {t : List UInt8} {l l' : List Pn.Pc} {i : Pn.Ins} {tg : List UInt8} (h0 : LA w w1.heap.size ao g t l W) (h : LA w w1.heap.size ao' g t l' w') (hp : LP q i tg W.heap.size w') (hw : w.heap.size < w1.heap.size) (x y z : Value) :
    w.heap.size ≤ q ∧ CellsAt q (Pn.partCells i tg) (((w'.setCell ⟨w1.heap.size, 1, none⟩ x).setCell ⟨w.heap.size, 0, none⟩ y).setCell ⟨w.heap.size, 1, none⟩ z) ∧ Below w.heap.size w (((w'.setCell ⟨w1.heap.size, 1, none⟩ x).setCell ⟨w.heap.size, 0, none⟩ y).setCell ⟨w.heap.size, 1, none⟩ z) := by
  have hq := hp.lo
  have h1 := h0.below.size
  have h2 := h0.ln.1
  exact ⟨by omega, ((hp.c.far _ _ _ (by omega)).far _ _ _ (by omega)).far _ _ _ (by omega), ((h.below.setCell (Nat.le_of_lt hw) _).setCell (Nat.le_refl _) _).setCell (Nat.le_refl _) _⟩
set_option maxRecDepth 20000 in
set_option maxHeartbeats 4000000 in
theorem readLine_ins (s : ByteArray) (w : World) (hs : s.size ≤ 2000) (hE : Env w) (kd : Int) (nm : List UInt8) (l : List Pn.Pc) (hcut : Pn.cutM (Lib.cut s.data.toList [35]).1 0 [] = some ((kd, nm) :: l))
    (hcol : ∀ p, l[0]? = some p → p.2 ≠ [58]) (hlen : ∀ p ∈ (kd, nm) :: l, p.2.length ≤ 2000) (k : Nat) (i : Pn.Ins) (tg : List UInt8) (hk : k < 64) (hf : (List.range 64).find? (Pn.byName ⟨nm.toArray⟩) = some k)
    (hr : Pn.rin k l = (Pn.partCells i tg, 0)) (hc : Lib.hasPrefix nm [99, 46] = false) (hd : Pn.dsz nm = 0) (hli : nm ≠ [108, 105]) :
    Calls Tryz.prog 193 #[.string s] w fun e w' => ∃ g, e = .returned (.tuple #[.agg #[.string ⟨#[]⟩, .slice (some ⟨g, 0, none⟩) 1 1], .int .i64 0]) ∧ w.heap.size ≤ g ∧ CellsAt g (Pn.partCells i tg) w' ∧ Below w.heap.size w w' := by
  have HC := hid (cut_is s (w.alloc (.cells #[.string ⟨#[]⟩, .slice none 0 0] 255)) hs (hE.below ((Below.refl _ _).alloc (Nat.le_refl _) _) hE.1))
  rw [hcut] at HC
  have hli' : ((⟨nm.toArray⟩ : ByteArray).toList == [108, 105]) = false := by rw [ByteArray.toList_eq]; simpa using hli
  have HST := hid (fun (w0 : World) (B : Nat) (ao : Option Addr) (g cp : Nat) (W : World) (h : LA w0 B ao g nm l W) => readStatement_la ⟨nm.toArray⟩ k i tg hk hf hc hd hli' cp hr h rfl)
  clear hli' hc hd hf hr hli hcut
  go_enter Tryz.func193, Tryz.ntmps193
  go_wp2_with fail
  refine HC.out.mono ?_
  rintro e w1 ⟨⟨v, rfl, hown⟩, hB1⟩
  obtain ⟨g, cap, rfl, hcap, hg1, hg2, htx, hpcs⟩ := pc_of hown hlen
  have hE1 : Env w1 := (hE.below ((Below.refl _ _).alloc (Nat.le_refl _) _) hE.1).below hB1 (by simp; have := hE.1; omega)
  have HLA : Hid (LA w w1.heap.size (some ⟨g, 2, none⟩) g nm l (w1.alloc (.cells lz.toArray 255))) := hid (by
    have hBn : Below w1.heap.size w1 (w1.alloc (.cells lz.toArray 255)) := (Below.refl _ _).alloc (Nat.le_refl _) _
    exact ⟨hE1.below hBn hE1.1, hpcs.move hBn _ hBn.size, ((CellsAt.new w lz 255).next hB1).next hBn, CellsAt.new w1 lz 255, (((Below.refl _ _).alloc (Nat.le_refl _) _).trans (hB1.mono (by simp))).trans (hBn.mono (by have := hB1.size; simp at this; omega)), by have := hBn.size; omega, (hBn.cell (p := ⟨g, 1, none⟩) hg2).trans htx⟩)
  have hw1 : w.heap.size < w1.heap.size := by have := hB1.size; simp at this; omega
  simp at hg1
  cases l with
  | nil =>
    clear hown hB1 hpcs HC hcol hlen
    have hla0 : ∀ ao, LA w w1.heap.size ao g nm [] (w1.alloc (.cells lz.toArray 255)) := fun ao => ⟨HLA.out.env, fun i q hi => by simp at hi, HLA.out.res, HLA.out.ln, HLA.out.below, HLA.out.lt, HLA.out.text⟩
    have htx2 := HLA.out.text
    have hgn : g ≠ w1.heap.size := by omega
    have hgn' : w1.heap.size ≠ g := by omega
    have hwn : w.heap.size ≠ w1.heap.size := by omega
    have hwn' : w1.heap.size ≠ w.heap.size := by omega
    unfold lz at hla0 htx2
    by_cases hc1 : cap = 1
    · subst hc1
      go_wp2_with fail
      generalize w1.alloc _ = W at hla0 htx2 ⊢
      go_region_held3 (fun w' => w'.cell? ⟨g, 1, none⟩ = some (.string ⟨nm.toArray⟩)) (first | (exact LA.text (by assumption)) | go_keep)
        (first | (go_at_call 227; refine (HST.out w w1.heap.size _ g _ _ (by first | assumption | exact LA.next (hla0 _) ((Below.refl _ _).drew) | exact LA.next (hla0 _) (drewN_b _ _))).mono ?_; rintro e w' ⟨q, rfl, hlp, hla'⟩; obtain ⟨x0, x1, x2⟩ := hla'.ln; have y0 := x2 0 _ rfl; have y1 := x2 1 _ rfl; have t' := hla'.text; clear x2))
      obtain ⟨r0, r1, r2⟩ := hla'.res
      have s0 := r2 0 _ rfl
      have s1 := r2 1 _ rfl
      have HEN := hid (fun x y z => rl_end (LA.next (hla0 none) ((Below.refl _ _).drew)) hla' hlp hw1 x y z)
      clear r2 hla' hlp
      go_wp2_with fail
      refine bodyPost_ret (v := .tuple #[.agg #[.string ⟨#[]⟩, .slice (some ⟨q, 0, none⟩) 1 1], .int .i64 0]) (by simp [results, Tryz.results193, go_sem, s0, s1]) rfl ⟨q, rfl, ?_⟩
      exact HEN.out _ _ _
    · have h02 : (1 : Int) ≤ cap := by omega
      go_wp2_with fail
      generalize w1.alloc _ = W at hla0 htx2 ⊢
      go_region_held3 (fun w' => w'.cell? ⟨g, 1, none⟩ = some (.string ⟨nm.toArray⟩)) (first | (exact LA.text (by assumption)) | go_keep)
        (first | (go_at_call 227; refine (HST.out w w1.heap.size _ g _ _ (by first | assumption | exact LA.next (hla0 _) ((Below.refl _ _).drew) | exact LA.next (hla0 _) (drewN_b _ _))).mono ?_; rintro e w' ⟨q, rfl, hlp, hla'⟩; obtain ⟨x0, x1, x2⟩ := hla'.ln; have y0 := x2 0 _ rfl; have y1 := x2 1 _ rfl; have t' := hla'.text; clear x2))
      obtain ⟨r0, r1, r2⟩ := hla'.res
      have s0 := r2 0 _ rfl
      have s1 := r2 1 _ rfl
      have HEN := hid (fun x y z => rl_end (LA.next (hla0 none) ((Below.refl _ _).drew)) hla' hlp hw1 x y z)
      clear r2 hla' hlp
      go_wp2_with fail
      refine bodyPost_ret (v := .tuple #[.agg #[.string ⟨#[]⟩, .slice (some ⟨q, 0, none⟩) 1 1], .int .i64 0]) (by simp [results, Tryz.results193, go_sem, s0, s1]) rfl ⟨q, rfl, ?_⟩
      exact HEN.out _ _ _
  | cons p l' =>
    obtain ⟨g', o', he', hlt', hne', hle', c0', c1'⟩ := hpcs 0 p rfl
    cases he'
    have hq : (p.2 == [58]) = false := by simpa using hcol p rfl
    clear hown hB1 hpcs HC hcol hlen
    have HLC := HLA.out
    have htx2 := HLA.out.text
    have hgn : g ≠ w1.heap.size := by omega
    have hgn' : w1.heap.size ≠ g := by omega
    have hwn : w.heap.size ≠ w1.heap.size := by omega
    have hwn' : w1.heap.size ≠ w.heap.size := by omega
    unfold lz at HLC htx2
    simp only [List.length_cons] at hcap
    have h01 : (1 : Int) ≤ (l'.length : Int) + 1 + 1 := by omega
    have h02 : ((l'.length + 1 + 1 : Nat) : Int) ≤ cap := by omega
    have h03 : ¬ cap = 1 := by omega
    have h04 : (0 : Int) < (l'.length : Int) + 1 + 1 := by omega
    have h05 : (0 : Int) < ((l'.length + 1 + 1 : Nat) : Int) := by omega
    have h06 : (1 : Int) ≤ ((l'.length + 1 + 1 : Nat) : Int) := by omega
    go_wp2_with fail
    generalize w1.alloc _ = W at HLC htx2 ⊢
    go_region_held3 (fun w' => w'.cell? ⟨g, 1, none⟩ = some (.string ⟨nm.toArray⟩)) (first | (exact LA.text (by assumption)) | go_keep)
      (first | (go_at_call 227; refine (HST.out w w1.heap.size _ g _ _ (by first | assumption | exact LA.next HLC ((Below.refl _ _).drew) | exact LA.next HLC (drewN_b _ _))).mono ?_; rintro e w' ⟨q, rfl, hlp, hla'⟩; obtain ⟨x0, x1, x2⟩ := hla'.ln; have y0 := x2 0 _ rfl; have y1 := x2 1 _ rfl; have t' := hla'.text; clear x2))
    obtain ⟨r0, r1, r2⟩ := hla'.res
    have s0 := r2 0 _ rfl
    have s1 := r2 1 _ rfl
    have HEN := hid (fun x y z => rl_end (LA.next HLC ((Below.refl _ _).drew)) hla' hlp hw1 x y z)
    clear r2 hla' hlp
    go_wp2_with fail
    refine bodyPost_ret (v := .tuple #[.agg #[.string ⟨#[]⟩, .slice (some ⟨q, 0, none⟩) 1 1], .int .i64 0]) (by simp [results, Tryz.results193, go_sem, s0, s1]) rfl ⟨q, rfl, ?_⟩
    exact HEN.out _ _ _
end Go.Proofs.YtbmcofdodfcnnaaGreatDoor
