import Derived.Test.YtbmcofdodfcnnaaGreatDoorGAA
import Derived.Test.YtbmcofdodfcnnaaGreatDoorGV6
import Derived.Test.YtbmcofdodfcnnaaGreatDoorGU1
import Derived.Test.YtbmcofdodfcnnaaGreatDoorGFA
import Derived.Deep.RegionLaw
import Derived.Deep.AppendLies
import Derived.Deep.RegionWith
import Derived.Test.YtbmcofdodfcnnaaGreatDoorShelf
import Derived.Shelf.Strings.BuilderK
import Derived.Lib.QuietBelow
import Derived.Maps.OwnSet
import Derived.StringKeys
import Derived.Lib.SplitLaws
import Derived.Lib.ReplaceLaws
namespace Go.Proofs.YtbmcofdodfcnnaaGreatDoor
open Go.RowKit
def apart (i : Pn.Ins) (tg : List UInt8) (line size : Int) : List Value := Pn.partCells i tg ++ [.int .i64 line, .int .i64 size]
theorem firstSize_long (i : Pn.Ins) (tg : List UInt8) (line size : Int) (w : World) :
    Calls Tryz.prog 142 #[.agg (apart i tg line size).toArray, .bool false] w fun e w' => e = .returned (.int .i64 4) ∧ Below w.heap.size w w' := by
  unfold apart Pn.partCells
  simp only [List.cons_append, List.nil_append]
  go_enter Tryz.func142, Tryz.ntmps142
  go_wp2_with fail
  go_ret
  exact ⟨rfl, (Below.refl _ _).alloc (Nat.le_refl _) _⟩
theorem partBytes_long (i j : Pn.Ins) (tg : List UInt8) (line : Int) (w : World) (he : (Pn.enc j).2 = 0) :
    Calls Tryz.prog 145 #[.agg (apart i tg line 4).toArray, j.val] w fun e w' => e = .returned (.tuple #[.string ⟨(Pn.bytN 4 (Pn.enc j).1).toArray⟩, .int .i64 0]) ∧ Below w.heap.size w w' := by
  have HE := hid (fun w' => iencode_any j w')
  unfold apart Pn.partCells
  simp only [List.cons_append, List.nil_append]
  obtain ⟨jop, jrd, jrs1, jrs2, jimm⟩ := j
  generalize hX : Pn.enc ⟨jop, jrd, jrs1, jrs2, jimm⟩ = X at *
  have HX := hid hX
  clear hX
  obtain ⟨n, er⟩ := X
  simp only at he
  subst he
  unfold Pn.Ins.val at *
  simp only at *
  go_enter Tryz.func145, Tryz.ntmps145
  go_wp2_with fail
  refine (HE.out _).mono ?_
  rintro e w1 ⟨rfl, hB1⟩
  have HA := hid ((CellsAt.new w [.string ⟨#[]⟩, .int .i64 i.op, .int .i64 i.rd, .int .i64 i.rs1, .int .i64 i.rs2, .int .i64 i.imm, .string ⟨tg.toArray⟩, .int .i64 line, .int .i64 4] 202).alloc (.cells #[.int .i64 jop, .int .i64 jrd, .int .i64 jrs1, .int .i64 jrs2, .int .i64 jimm] 26))
  have c8 := (HA.out.next hB1).2.2 8 _ rfl
  have HB1 : Hid (Below w.heap.size w w1) := hid ((((Below.refl _ _).alloc (Nat.le_refl _) _).alloc (by rw [World.size_alloc]; omega) _).trans (hB1.mono (by rw [World.size_alloc, World.size_alloc]; omega)))
  clear hB1 HA HE
  go_wp2_with fail
  refine (bytes_is n 4 _ (by decide)).mono ?_
  rintro e w2 ⟨rfl, hB2⟩
  go_wp2_with fail
  go_ret2
  exact ⟨rfl, HB1.out.trans (hB2.mono HB1.out.size)⟩
end Go.Proofs.YtbmcofdodfcnnaaGreatDoor
namespace Go.Proofs.YtbmcofdodfcnnaaGreatDoor
open Go.RowKit
abbrev Pt : Type := Pn.Ins × List UInt8 × Int × Int
def ptC (x : Pt) : List Value := apart x.1 x.2.1 x.2.2.1 x.2.2.2
structure PgAt (b g cap : Nat) (mv : Value) (l : List Pt) (w : World) : Prop where
  c0 : w.cell? ⟨b, 0, none⟩ = some (.slice (some ⟨g, 0, none⟩) l.length cap)
  c1 : w.cell? ⟨b, 1, none⟩ = some mv
  bl : b < w.heap.size
  gl : g < w.heap.size
  ne : b ≠ g
  fb : ∀ q, w.frozen? ⟨b, q, none⟩ = false
  fg : ∀ q, w.frozen? ⟨g, q, none⟩ = false
  at' : ∀ k x, l[k]? = some x → ∀ j u, (ptC x)[j]? = some u → w.cell? ⟨g, k * 9 + j, none⟩ = some u
theorem PgAt.next {b g cap : Nat} {mv : Value} {l : List Pt} {w w' : World} (h : PgAt b g cap mv l w) (hB : Below w.heap.size w w') : PgAt b g cap mv l w' :=
  ⟨(hB.cell (p := ⟨b, 0, none⟩) h.bl).trans h.c0, (hB.cell (p := ⟨b, 1, none⟩) h.bl).trans h.c1, Nat.lt_of_lt_of_le h.bl hB.size, Nat.lt_of_lt_of_le h.gl hB.size, h.ne, fun q => (hB.frozen (p := ⟨b, q, none⟩) h.bl).trans (h.fb q), fun q => (hB.frozen (p := ⟨g, q, none⟩) h.gl).trans (h.fg q), fun k x hk j u hj => (hB.cell (p := ⟨g, k * 9 + j, none⟩) h.gl).trans (h.at' k x hk j u hj)⟩
set_option maxRecDepth 20000 in
set_option maxHeartbeats 1000000 in
theorem placed_plain (b g cap : Nat) (mv : Value) (l : List Pt) (k : Nat) (i : Pn.Ins) (line size : Int) (sl : Value) (w : World) (h : PgAt b g cap mv l w) (hk : l[k]? = some (i, [], line, size)) :
    Calls Tryz.prog 146 #[.pointer (some ⟨b, 0, none⟩), .int .i64 k, sl] w fun e w' => e = .returned i.val ∧ Below w.heap.size w w' := by
  have hkl : k < l.length := by
    rcases Nat.lt_or_ge k l.length with h | h
    · exact h
    · rw [List.getElem?_eq_none h] at hk; cases hk
  have hki : (k : Int) < l.length := by omega
  have c0 := h.c0
  have bl := h.bl
  have gl := h.gl
  have p1 := h.at' k _ hk 1 _ rfl
  have p2 := h.at' k _ hk 2 _ rfl
  have p3 := h.at' k _ hk 3 _ rfl
  have p4 := h.at' k _ hk 4 _ rfl
  have p5 := h.at' k _ hk 5 _ rfl
  have p6 := h.at' k _ hk 6 _ rfl
  simp only at p1 p2 p3 p4 p5 p6
  obtain ⟨iop, ird, irs1, irs2, iimm⟩ := i
  simp only at p1 p2 p3 p4 p5 p6
  clear hk h
  go_enter Tryz.func146, Tryz.ntmps146
  go_wp2_with fail
  refine bodyPost_ret (v := (Pn.Ins.mk iop ird irs1 irs2 iimm).val) (by simp [results, Tryz.results146, go_sem, Pn.Ins.val]) rfl ⟨rfl, ?_⟩
  exact ((Below.refl _ _).alloc (Nat.le_refl _) _).alloc (by rw [World.size_alloc]; omega) _
end Go.Proofs.YtbmcofdodfcnnaaGreatDoor
namespace Go.Proofs.YtbmcofdodfcnnaaGreatDoor
open Go.RowKit
set_option maxRecDepth 20000 in
set_option maxHeartbeats 1000000 in
theorem grow_plain (b g cap : Nat) (mv : Value) (l : List Pt) (sl : Value) (w : World) (h : PgAt b g cap mv l w) (ht : ∀ x ∈ l, x.2.1 = []) (hn : l.length ≤ 1000000) :
    Calls Tryz.prog 144 #[.pointer (some ⟨b, 0, none⟩), sl] w fun e w' => e = .returned (.bool false) ∧ Below w.heap.size w w' := by
  have HP := hid h
  have HT := hid ht
  have c0 := h.c0
  clear h ht
  go_enter Tryz.func144, Tryz.ntmps144
  go_wp2_with fail
  clear c0
  go_loopw [5, 13] (fun a i wr => ∃ j : Nat, j ≤ l.length ∧ a = .bool false ∧ i = .int .i64 j ∧ Below w.heap.size w wr) (fun _ i _ => l.length - (intOf i).toNat)
  case atStart => exact ⟨0, Nat.zero_le _, rfl, rfl, Below.refl _ _⟩
  case round =>
    obtain ⟨j, hj, rfl, rfl, hB⟩ := hrel
    by_cases hlt : j < l.length
    · obtain ⟨⟨i, tg, line, size⟩, hx⟩ : ∃ x, l[j]? = some x := ⟨_, List.getElem?_eq_getElem hlt⟩
      have htg : tg = [] := HT.out _ (List.mem_of_getElem? hx)
      subst htg
      have hP := HP.out.next hB
      have gl := hP.gl
      have p0 := hP.at' j _ hx 0 _ rfl
      have p1 := hP.at' j _ hx 1 _ rfl
      have p2 := hP.at' j _ hx 2 _ rfl
      have p3 := hP.at' j _ hx 3 _ rfl
      have p4 := hP.at' j _ hx 4 _ rfl
      have p5 := hP.at' j _ hx 5 _ rfl
      have p6 := hP.at' j _ hx 6 _ rfl
      have p7 := hP.at' j _ hx 7 _ rfl
      have p8 := hP.at' j _ hx 8 _ rfl
      simp only [Nat.add_zero] at p0 p1 p2 p3 p4 p5 p6 p7 p8
      have hji : (j : Int) < l.length := by omega
      have HB := hid hB
      clear hP hB hx
      go_wp2_with fail
      go_roundw
      case rel => exact ⟨j + 1, by omega, rfl, by go_num, HB.out.alloc HB.out.size _⟩
      case measure => simp [intOf]; omega
    · go_wp2_with fail
      go_ret
      exact ⟨rfl, hB⟩
end Go.Proofs.YtbmcofdodfcnnaaGreatDoor
namespace Go.Proofs.YtbmcofdodfcnnaaGreatDoor
open Go.RowKit
def psz : List Pt → Nat → Int
  | _, 0 => 0
  | l, k + 1 => psz l k + (match l[k]? with | some x => x.2.2.2 | none => 0)
def plcs (l : List Pt) (j : Nat) : List Int := (List.range (j + 1)).map (psz l)
theorem plcs_len (l : List Pt) (j : Nat) : (plcs l j).length = j + 1 := by simp [plcs]
theorem plcs_succ (l : List Pt) (j : Nat) : plcs l (j + 1) = plcs l j ++ [psz l (j + 1)] := by simp [plcs, List.range_succ]
theorem plcs_at (l : List Pt) (j k : Nat) (h : k ≤ j) : (plcs l j).getD k 0 = psz l k := by
  simp [plcs, List.getD, List.getElem?_range (show k < j + 1 by omega)]
set_option maxRecDepth 20000 in
set_option maxHeartbeats 2000000 in
theorem places_is (b g cap : Nat) (mv : Value) (l : List Pt) (w : World) (h : PgAt b g cap mv l w) (hn : l.length ≤ 1000000) (hs : ∀ k, k ≤ l.length → 0 ≤ psz l k ∧ psz l k ≤ 100000000) :
    Calls Tryz.prog 143 #[.pointer (some ⟨b, 0, none⟩)] w fun e w' => ∃ v, e = .returned v ∧ w'.ownsRow w.heap.size 3 1 v (plcs l l.length).length (ints (plcs l l.length)) ∧ Below w.heap.size w w' := by
  obtain ⟨i0, hi, hz0, hz1, hz2⟩ := info_parts Tryz.infoInt
  have HP := hid h
  have HS := hid hs
  have c0 := h.c0
  have bl := h.bl
  clear h hs
  go_enter Tryz.func143, Tryz.ntmps143
  go_wp2_with fail
  clear c0
  go_loopw [3, 12] (fun v i wr => ∃ j : Nat, j ≤ l.length ∧ i = .int .i64 j ∧ wr.ownsRow w.heap.size 3 1 v (plcs l j).length (ints (plcs l j)) ∧ Below w.heap.size w wr) (fun _ i _ => l.length - (intOf i).toNat)
  case atStart =>
    refine ⟨0, Nat.zero_le _, rfl, ?_, (Below.refl _ _).alloc (Nat.le_refl _) _⟩
    exact World.ownsRow_lit w #[.int .i64 0] 1 (Nat.le_refl _) (by unfold maxLen; omega) (by rfl)
  case round =>
    obtain ⟨j, hj, rfl, hown, hB⟩ := hrel
    by_cases hlt : j < l.length
    · obtain ⟨⟨i, tg, line, size⟩, hx⟩ : ∃ x, l[j]? = some x := ⟨_, List.getElem?_eq_getElem hlt⟩
      have hP := HP.out.next hB
      have gl := hP.gl
      have p0 := hP.at' j _ hx 0 _ rfl
      have p1 := hP.at' j _ hx 1 _ rfl
      have p2 := hP.at' j _ hx 2 _ rfl
      have p3 := hP.at' j _ hx 3 _ rfl
      have p4 := hP.at' j _ hx 4 _ rfl
      have p5 := hP.at' j _ hx 5 _ rfl
      have p6 := hP.at' j _ hx 6 _ rfl
      have p7 := hP.at' j _ hx 7 _ rfl
      have p8 := hP.at' j _ hx 8 _ rfl
      simp only [Nat.add_zero] at p0 p1 p2 p3 p4 p5 p6 p7 p8
      have hji : (j : Int) < l.length := by omega
      obtain ⟨ao, cp, rfl, hIA⟩ := own_ints hown
      rw [plcs_len] at *
      obtain ⟨q, rfl, hq1, hq2, hqc⟩ := hIA.at' j (by rw [plcs_len]; omega)
      rw [plcs_at l j j (Nat.le_refl _)] at hqc
      have hs0 := HS.out j (by omega)
      have hs1 := HS.out (j + 1) (by omega)
      have HSZ : Hid (psz l (j + 1) = psz l j + size) := hid (by simp [psz, hx])
      have HB := hid hB
      have HO := hid hown
      clear hP hB hx hown hIA
      have hjj : (j : Int) < ((j + 1 : Nat) : Int) := by omega
      have hj0 : (0 : Int) ≤ (j : Int) := by omega
      have hjk : (j : Int) < (j : Int) + 1 := by omega
      have wa : IntKind.i64.wrap (psz l j + size) = psz l j + size := IntWalk.i64_in _ (by have := HSZ.out; omega)
      go_wp2_with fail
      have HOW := hid (HO.out.alloc (.cells #[.string ⟨#[]⟩, .int .i64 i.op, .int .i64 i.rd, .int .i64 i.rs1, .int .i64 i.rs2, .int .i64 i.imm, .string ⟨tg.toArray⟩, .int .i64 line, .int .i64 size] 202))
      have HBW := hid (HB.out.alloc HB.out.size (.cells #[.string ⟨#[]⟩, .int .i64 i.op, .int .i64 i.rd, .int .i64 i.rs1, .int .i64 i.rs2, .int .i64 i.imm, .string ⟨tg.toArray⟩, .int .i64 line, .int .i64 size] 202))
      have k1 : (wr.alloc (.cells #[.string ⟨#[]⟩, .int .i64 i.op, .int .i64 i.rd, .int .i64 i.rs1, .int .i64 i.rs2, .int .i64 i.imm, .string ⟨tg.toArray⟩, .int .i64 line, .int .i64 size] 202)).cell? ⟨q, j, none⟩ = some (.int .i64 (psz l j)) := by go_simp
      have k2 : (wr.alloc (.cells #[.string ⟨#[]⟩, .int .i64 i.op, .int .i64 i.rd, .int .i64 i.rs1, .int .i64 i.rs2, .int .i64 i.imm, .string ⟨tg.toArray⟩, .int .i64 line, .int .i64 size] 202)).cell? ⟨wr.heap.size, 8, none⟩ = some (.int .i64 size) := by go_simp
      have hwz := HBW.out.size
      clear p0 p1 p2 p3 p4 p5 p6 p7 p8 hqc HO HB
      generalize wr.alloc (.cells #[.string ⟨#[]⟩, .int .i64 i.op, .int .i64 i.rd, .int .i64 i.rs1, .int .i64 i.rs2, .int .i64 i.imm, .string ⟨tg.toArray⟩, .int .i64 line, .int .i64 size] 202) = W at *
      go_region_law
        ((refine step_append_lies _ (by rfl) _ _ _ (by rfl) w.heap.size 3 i0 _ 1 8 Tryz.underlying49 hi hz0 hz1 hz2 rfl (by omega) (.slice (some ⟨q, 0, none⟩) (j + 1) cp) (j + 1) (ints (plcs l j)) (by rfl) ((HOW.out.alloc _).drew)
            ⟨W.heap.size, 0, none⟩ 1 1 [.int .i64 (psz l j + size)] (by rfl) (by rfl) (World.news_of_block (cs := #[.int .i64 (psz l j + size)]) (t := 3) (fr := (0, 0)) (heap_alloc_new W _)) (by simp [Value.oneCell'])
            (by omega) (by unfold maxLen; omega) (by omega) (by simp; omega) (W.heap.size + 1) (by simp) ?_; intro gg cap9 w9 hown9 hgrow hat hlt9))
      all_goals
        have hB9 : Below w.heap.size w w9 := ((HBW.out.alloc hwz _).drew).grown hgrow (by simp; omega) (fun k hk => by have := (HOW.out.lt k hk).1; omega)
        have hO9 : w9.ownsRow w.heap.size 3 1 (.slice (some ⟨gg, 0, none⟩) (j + 1 + 1) cap9) (plcs l (j + 1)).length (ints (plcs l (j + 1))) := by
          rw [plcs_len, plcs_succ, HSZ.out]
          simpa [ints] using hown9
        clear hgrow hown9 hat
        go_wp2_with fail
        go_roundw
        case rel => exact ⟨j + 1, by omega, by go_num, hO9, hB9⟩
        case measure => simp [intOf]; omega
    · have hjn : j = l.length := by omega
      subst hjn
      go_wp2_with fail
      go_ret
      exact ⟨_, rfl, hown, hB⟩
end Go.Proofs.YtbmcofdodfcnnaaGreatDoor
namespace Go.Proofs.YtbmcofdodfcnnaaGreatDoor
open Go.RowKit
def sz4 (l : List Pt) (j : Nat) : List Pt := l.mapIdx fun k x => if k < j then (x.1, x.2.1, x.2.2.1, 4) else x
theorem sz4_len (l : List Pt) (j : Nat) : (sz4 l j).length = l.length := by simp [sz4]
theorem sz4_zero (l : List Pt) : sz4 l 0 = l := by
  apply List.ext_getElem?
  intro k
  cases h : l[k]? with
  | none => simp [sz4, h]
  | some x => simp [sz4, h]
theorem sz4_at (l : List Pt) (j k : Nat) (x : Pt) (h : l[k]? = some x) : (sz4 l j)[k]? = some (if k < j then (x.1, x.2.1, x.2.2.1, 4) else x) := by
  simp [sz4, h]
theorem PgAt.size {b g cap : Nat} {mv : Value} {l : List Pt} {w : World} (j : Nat) (x : Pt) (h : PgAt b g cap mv (sz4 l j) w) (hx : l[j]? = some x) : PgAt b g cap mv (sz4 l (j + 1)) (w.setCell ⟨g, j * 9 + 8, none⟩ (.int .i64 4)) := by
  have hbk : (w.setCell ⟨g, j * 9 + 8, none⟩ (.int .i64 4)).heap[b]? = w.heap[b]? := Below.heap_setCell _ _ _ _ (fun e => h.ne e)
  refine ⟨?_, ?_, ?_, ?_, h.ne, fun q => (World.frozen?_of_block (a := ⟨b, q, none⟩) hbk).trans (h.fb q), fun q => by rw [World.frozen?_setCell]; exact h.fg q, fun k y hk i u hu => ?_⟩
  · have := (World.cell?_of_block (a := ⟨b, 0, none⟩) hbk).trans h.c0
    rw [sz4_len] at this ⊢
    exact this
  · exact (World.cell?_of_block (a := ⟨b, 1, none⟩) hbk).trans h.c1
  · simpa [World.setCell] using h.bl
  · simpa [World.setCell] using h.gl
  · have hkl : k < l.length := by
      rcases Nat.lt_or_ge k (sz4 l (j + 1)).length with h | h
      · rwa [sz4_len] at h
      · rw [List.getElem?_eq_none h] at hk; cases hk
    obtain ⟨z, hz⟩ : ∃ z, l[k]? = some z := ⟨_, List.getElem?_eq_getElem hkl⟩
    rw [sz4_at l (j + 1) k z hz] at hk
    have hi9 : i < 9 := by
      rcases Nat.lt_or_ge i 9 with h | h
      · exact h
      · rw [List.getElem?_eq_none (by simpa [ptC, apart, Pn.partCells] using h)] at hu; cases hu
    by_cases hkj : k = j
    · subst hkj
      have hzx : z = x := Option.some.inj (hz.symm.trans hx)
      subst hzx
      clear hx
      rw [if_pos (by omega)] at hk
      cases hk
      by_cases h8 : i = 8
      · subst h8
        have e : u = .int .i64 4 := by
          have : (ptC (z.1, z.2.1, z.2.2.1, 4))[8]? = some (.int .i64 4) := rfl
          rw [this] at hu; exact (Option.some.inj hu).symm
        subst e
        exact World.cell?_setCell_same _ _ _ (h.at' k _ (by rw [sz4_at l k k z hz, if_neg (by omega)]) 8 (.int .i64 z.2.2.2) rfl)
      · rw [World.cell?_setCell_other _ _ _ _ (by intro e; injection e with _ e2; omega)]
        refine h.at' k _ (by rw [sz4_at l k k z hz, if_neg (by omega)]) i u ?_
        rw [← hu]
        match i, hi9, h8 with
        | 0, _, _ => rfl
        | 1, _, _ => rfl
        | 2, _, _ => rfl
        | 3, _, _ => rfl
        | 4, _, _ => rfl
        | 5, _, _ => rfl
        | 6, _, _ => rfl
        | 7, _, _ => rfl
        | i + 8, h9, h8 => exact absurd (show i = 0 by omega) (fun e => h8 (by omega))
    · rw [World.cell?_setCell_other _ _ _ _ (by intro e; injection e with _ e2; omega)]
      refine h.at' k y ?_ i u hu
      rw [sz4_at l j k z hz, ← hk]
      congr 1
      by_cases hlt : k < j
      · rw [if_pos hlt, if_pos (by omega)]
      · rw [if_neg hlt, if_neg (by omega)]
theorem PgAt.len {b g cap : Nat} {mv : Value} {l : List Pt} {j : Nat} {w : World} (h : PgAt b g cap mv (sz4 l j) w) : w.cell? ⟨b, 0, none⟩ = some (.slice (some ⟨g, 0, none⟩) l.length cap) := by
  have := h.c0
  rwa [sz4_len] at this
theorem sz4_tg {l : List Pt} {j : Nat} (h : ∀ x ∈ l, x.2.1 = []) : ∀ x ∈ sz4 l j, x.2.1 = [] := by
  intro x hx
  obtain ⟨k, hk⟩ := List.getElem?_of_mem hx
  have hkl : k < l.length := by
    rcases Nat.lt_or_ge k (sz4 l j).length with h | h
    · rwa [sz4_len] at h
    · rw [List.getElem?_eq_none h] at hk; cases hk
  rw [sz4_at l j k _ (List.getElem?_eq_getElem hkl)] at hk
  have hz := h _ (List.getElem_mem hkl)
  cases hk
  split
  · exact hz
  · exact hz
theorem own_base {w : World} {base base' : Nat} {e : TypeId} {size n : Nat} {v : Value} {xs : List Value} (h : w.ownsRow base e size v n xs) (hb : base' ≤ base) : w.ownsRow base' e size v n xs := by
  obtain ⟨h1, h2 | ⟨g, cap, cur, hv, hg, hc, h3⟩⟩ := h
  · exact ⟨h1, .inl h2⟩
  · exact ⟨h1, .inr ⟨g, cap, cur, hv, Nat.le_trans hb hg, hc, h3⟩⟩
theorem own_next {w w' : World} {base : Nat} {e : TypeId} {size n : Nat} {v : Value} {xs : List Value} (h : w.ownsRow base e size v n xs) (hB : Below w.heap.size w w') : w'.ownsRow base e size v n xs :=
  ownsRow_of_block h (fun g hg => hB.block g (h.lt g hg).2)
theorem kept_below {g : Nat} {w0 w w' : World} (h : Kept g w0 w) (hB : Below w.heap.size w w') : Kept g w0 w' := h.trans (Kept.of_below hB g)
set_option maxRecDepth 20000 in
set_option maxHeartbeats 4000000 in
theorem layOut_long (b g cap : Nat) (mv : Value) (l : List Pt) (w : World) (h : PgAt b g cap mv l w) (ht : ∀ x ∈ l, x.2.1 = []) (hn : l.length ≤ 1000000) (hs : ∀ k, k ≤ l.length → 0 ≤ psz (sz4 l l.length) k ∧ psz (sz4 l l.length) k ≤ 100000000) :
    Calls Tryz.prog 80 #[.pointer (some ⟨b, 0, none⟩), .bool false] w fun e w' => ∃ v, e = .returned v ∧ w'.ownsRow w.heap.size 3 1 v (plcs (sz4 l l.length) l.length).length (ints (plcs (sz4 l l.length) l.length)) ∧ PgAt b g cap mv (sz4 l l.length) w' ∧ Kept g w w' := by
  have HP := hid h
  have c0 := h.c0
  have gl0 := h.gl
  go_enter Tryz.func80, Tryz.ntmps80
  go_wp2_with fail
  clear c0
  go_loopw [12] (fun i wr => ∃ j : Nat, j ≤ l.length ∧ i = .int .i64 j ∧ PgAt b g cap mv (sz4 l j) wr ∧ Kept g w wr) (fun i _ => l.length - (intOf i).toNat)
  case atStart => exact ⟨0, Nat.zero_le _, rfl, by rw [sz4_zero]; exact HP.out, Kept.refl _ _⟩
  case round =>
    obtain ⟨j, hj, rfl, hP, hK⟩ := hrel
    by_cases hlt : j < l.length
    · obtain ⟨⟨i, tg, line, size⟩, hx⟩ : ∃ x, l[j]? = some x := ⟨_, List.getElem?_eq_getElem hlt⟩
      have hxj := (sz4_at l j j _ hx).trans (by rw [if_neg (Nat.lt_irrefl j)])
      have gl := hP.gl
      have bl := hP.bl
      have cb := hP.len
      have p0 := hP.at' j _ hxj 0 _ rfl
      have p1 := hP.at' j _ hxj 1 _ rfl
      have p2 := hP.at' j _ hxj 2 _ rfl
      have p3 := hP.at' j _ hxj 3 _ rfl
      have p4 := hP.at' j _ hxj 4 _ rfl
      have p5 := hP.at' j _ hxj 5 _ rfl
      have p6 := hP.at' j _ hxj 6 _ rfl
      have p7 := hP.at' j _ hxj 7 _ rfl
      have p8 := hP.at' j _ hxj 8 _ rfl
      simp only [Nat.add_zero] at p0 p1 p2 p3 p4 p5 p6 p7 p8
      have hfg := hP.fg
      have hji : (j : Int) < l.length := by omega
      have hfs := fun w' => firstSize_long i tg line size w'
      unfold apart Pn.partCells at hfs
      simp only [List.cons_append, List.nil_append] at hfs
      have HFS := hid hfs
      have HPj := hid hP
      have HKj := hid hK
      have HX := hid hx
      clear hP hK hx hxj hfs
      go_wp2_with fail
      go_region_with (go_at_call 142; refine (HFS.out _).mono ?_; rintro e w' ⟨rfl, hB'⟩; have hcb := (hB'.cell (p := ⟨b, 0, none⟩) bl).trans (by go_simp : _ = some (.slice (some ⟨g, 0, none⟩) l.length cap)); have hc8 := (hB'.cell (p := ⟨g, j * 9 + 8, none⟩) gl).trans (by go_simp : _ = some (.int .i64 size)); have hf8 := (hB'.frozen (p := ⟨g, j * 9 + 8, none⟩) gl).trans (by go_simp : _ = false))
      all_goals
        have HP1 := hid (PgAt.size j _ ((HPj.out.next ((Below.refl _ _).drew)).next hB') HX.out)
        have HK1 := hid ((kept_below (kept_below HKj.out ((Below.refl _ _).drew)) hB').near (j * 9 + 8) (.int .i64 4))
        clear hB' hcb hc8 hf8
        go_wp2_with fail
        go_roundw
        case rel => exact ⟨j + 1, by omega, by go_num, HP1.out, HK1.out⟩
        case measure => simp [intOf]; omega
    · have hjn : j = l.length := by omega
      subst hjn
      have HPj := hid hP
      have HKj := hid hK
      clear hP hK
      have HPL := hid (places_is b g cap mv (sz4 l l.length) wr HPj.out (by rw [sz4_len]; exact hn) (by rw [sz4_len]; exact hs))
      rw [sz4_len] at HPL
      go_wp2_with fail
      refine HPL.out.mono ?_
      rintro e w2 ⟨v, rfl, hown, hB2⟩
      have HO := hid hown
      have HP2 := hid (HPj.out.next hB2)
      have HK2 := hid (kept_below HKj.out hB2)
      clear hown hB2 HPL
      have HGR := hid (grow_plain b g cap mv (sz4 l l.length) v w2 HP2.out (sz4_tg ht) (by rw [sz4_len]; exact hn))
      go_wp2_with fail
      go_loopw [6] (fun a wx => a = v ∧ wx = w2) (fun _ _ => 0)
      case atStart => exact ⟨rfl, rfl⟩
      case round =>
        obtain ⟨rfl, rfl⟩ := hrel
        go_wp2_with fail
        refine HGR.out.mono ?_
        rintro e w3 ⟨rfl, hB3⟩
        go_wp2_with fail
        go_ret
        exact ⟨_, rfl, own_next (own_base HO.out HKj.out.size) hB3, HP2.out.next hB3, kept_below HK2.out hB3⟩
end Go.Proofs.YtbmcofdodfcnnaaGreatDoor
namespace Go.Proofs.YtbmcofdodfcnnaaGreatDoor
open Go.RowKit
theorem szBuilder : (Tryz.prog.info? 134).map (·.size) = some 2 := by kernel_rfl
theorem liesBuilder : liesAt Tryz.prog Tryz.prog.depth 134 (2 / Tryz.prog.cellsOf 134) 0 134 1 = true := by kernel_rfl
set_option maxHeartbeats 1000000 in
set_option maxRecDepth 100000 in
theorem check_used (b : Nat) (w : World) (h0 : w.cell? ⟨b, 0, none⟩ = some (.pointer (some ⟨b, 0, none⟩))) :
    Calls Tryz.prog 139 #[.pointer (some ⟨b, 0, none⟩)] w fun e w' => e = .returned (.tuple #[]) ∧ w' = w := by
  obtain ⟨j, hj, _⟩ := Option.map_eq_some_iff.1 szBuilder
  go_enter Tryz.func139, Tryz.ntmps139
  go_wp2
  rw [Lib.run_neq_ptr_same w _ Tryz.underlying132 hj]
  go_wp2
  go_end0
  exact ⟨rfl, rfl⟩
set_option maxHeartbeats 1000000 in
set_option maxRecDepth 100000 in
theorem check_fresh (b : Nat) (w : World) (h0 : w.cell? ⟨b, 0, none⟩ = some (.pointer none)) (hsh : w.shape? b = some (134, 2)) (hfz : w.frozen? ⟨b, 0, none⟩ = false) :
    Calls Tryz.prog 139 #[.pointer (some ⟨b, 0, none⟩)] w fun e w' => e = .returned (.tuple #[]) ∧ w' = w.setCell ⟨b, 0, none⟩ (.pointer (some ⟨b, 0, none⟩)) := by
  obtain ⟨j, hj, hjs⟩ := Option.map_eq_some_iff.1 szBuilder
  go_enter Tryz.func139, Tryz.ntmps139
  go_wp2
  rw [Lib.run_to_unsafe w ⟨b, 0, none⟩ Tryz.underlying132 Tryz.underlying250 hj (by rw [hjs]; decide) hsh (Nat.zero_lt_succ 1)]
  simp only [Result.andThen]
  rw [Oper.upon_value]
  go_wp2
  rw [run_callFunc_extern Tryz.func191 (by kernel_rfl) (by kernel_rfl) (by kernel_rfl) (e := Extern.AbiNoEscape.same) (by kernel_rfl)]
  rw [Lib.run_noEscape]
  simp only [Result.andThen]
  rw [Oper.upon_value]
  go_wp2
  rw [Lib.run_from_unsafe w ⟨b, 0, none⟩ Tryz.underlying250 Tryz.underlying132 hj hsh liesBuilder]
  simp only [Result.andThen]
  rw [Oper.upon_value]
  go_wp2
  go_end0
  exact ⟨rfl, rfl⟩
theorem check_is (B b : Nat) (bs : List Value) (w : World) (h : Lib.IsBuilder 134 5 B b bs w) :
    Calls Tryz.prog 139 #[.pointer (some ⟨b, 0, none⟩)] w fun e w' => e = .returned (.tuple #[]) ∧ Lib.BuilderAt 134 5 B b (.pointer (some ⟨b, 0, none⟩)) bs w' ∧ Below B w w' := by
  rcases h with h | h
  · exact (check_fresh b w h.cell0 h.shape h.frozen0).mono fun e w' ⟨he, hw⟩ => ⟨he, by rw [hw]; exact h.used _, by rw [hw]; exact (Below.refl B w).setCell (p := ⟨b, 0, none⟩) h.1 _⟩
  · exact (check_used b w h.cell0).mono fun e w' ⟨he, hw⟩ => ⟨he, by rw [hw]; exact h, by rw [hw]; exact Below.refl B _⟩
end Go.Proofs.YtbmcofdodfcnnaaGreatDoor
namespace Go.Proofs.YtbmcofdodfcnnaaGreatDoor
open Go.RowKit
set_option maxHeartbeats 2000000 in
set_option maxRecDepth 100000 in
theorem writeString_is (B b : Nat) (bs : List Value) (s : ByteArray) (w : World) (h : Lib.IsBuilder 134 5 B b bs w) (hlen : bs.length + s.size ≤ 140737488355328) (hBw : B ≤ w.heap.size) :
    Calls Tryz.prog 76 #[.pointer (some ⟨b, 0, none⟩), .string s] w fun e w' => e = .returned (.tuple #[.int .i64 s.size, .nilIface]) ∧ Lib.BuilderAt 134 5 B b (.pointer (some ⟨b, 0, none⟩)) (bs ++ Lib.strCells s) w' ∧ Below B w w' := by
  obtain ⟨i0, hi, hz0, hz1, hz2⟩ := info_parts Tryz.infoByte
  have HC := hid (check_is B b bs w h)
  go_enter Tryz.func76, Tryz.ntmps76
  go_wp2_with fail
  refine HC.out.mono ?_
  rintro e w1 ⟨rfl, h1, hb1⟩
  have hlt := h1.lt
  obtain ⟨hB, v, hbk, hown, hne⟩ := h1
  have c1 : w1.cell? ⟨b, 1, none⟩ = some v := by rw [Lib.cell_of_heap hbk]; rfl
  have hs1 := hb1.size
  go_wp2_with (at_builtin; refine Lib.wpList_append_own_string _ rfl _ _ 65 9 rfl B 5 i0 Tryz.underlying65 Tryz.underlying9 hi hz0 hz1 hz2 _ _ _ rfl hown s rfl ?c3 ?c4 ?c5 ?_)
  case c3 => unfold maxLen; omega
  case c4 => omega
  case c5 => omega
  intro v' w2 hown' hgrow _
  have hbk2 : w2.heap[b]? = some (.cells #[.pointer (some ⟨b, 0, none⟩), v] 134 (0, 0)) := (hgrow.block b hlt (fun e => hne e.symm)).trans hbk
  have d1 : w2.cell? ⟨b, 1, none⟩ = some v := by rw [Lib.cell_of_heap hbk2]; rfl
  have df : w2.frozen? ⟨b, 1, none⟩ = false := by simp [World.frozen?, hbk2]
  have HPUT := hid (Lib.BuilderAt.put (p := .pointer (some ⟨b, 0, none⟩)) (bs' := bs ++ Lib.strCells s) hB hbk2 (by simpa [Lib.strCells_length] using hown') (by decide : 134 ≠ 5))
  have HB2 := hid ((hb1.grown hgrow (by omega) (fun k hk => (hown.lt k hk).1)).setCell (p := ⟨b, 1, none⟩) hB v')
  obtain ⟨ao, n', cap, rfl⟩ : ∃ ao n' cap, v' = .slice ao n' cap := by
    rcases hown'.2 with ⟨hv, _⟩ | ⟨g, cap, cur, hv, _⟩
    · exact ⟨_, _, _, hv⟩
    · exact ⟨_, _, _, hv⟩
  clear hown' hgrow
  go_wp2_with fail
  go_ret2
  exact ⟨rfl, HPUT.out, HB2.out⟩
end Go.Proofs.YtbmcofdodfcnnaaGreatDoor
namespace Go.Proofs.YtbmcofdodfcnnaaGreatDoor
open Go.RowKit
def pby (l : List Pt) : Nat → List UInt8
  | 0 => []
  | j + 1 => pby l j ++ (match l[j]? with | some x => Pn.bytN 4 (Pn.enc x.1).1 | none => [])
theorem pby_len (l : List Pt) (j : Nat) : (pby l j).length ≤ 4 * j := by
  induction j with
  | zero => simp [pby]
  | succ j ih =>
    simp only [pby, List.length_append]
    cases l[j]? with
    | none => simp; omega
    | some x => simp only [Pn.bytN_len]; omega
structure BS (w0 : World) (b g cap : Nat) (mv : Value) (l : List Pt) (j : Nat) (w : World) : Prop where
  p : PgAt b g cap mv l w
  f : CellsAt w0.heap.size [.int .i64 0, .int .i64 0] w
  d : Lib.IsBuilder 134 5 (w0.heap.size + 1) (w0.heap.size + 1) (Lib.byteCells (pby l j)) w
  b : Below w0.heap.size w0 w
theorem at_next {T e : TypeId} {B b : Nat} {p : Value} {bs : List Value} {w w' : World} (h : Lib.BuilderAt T e B b p bs w) (hB : Below w.heap.size w w') : Lib.BuilderAt T e B b p bs w' := by
  have hl := h.lt
  obtain ⟨h1, v, hb, ho, hne⟩ := h
  exact ⟨h1, v, (hB.block b hl).trans hb, own_next ho hB, hne⟩
theorem is_next {T e : TypeId} {B b : Nat} {bs : List Value} {w w' : World} (h : Lib.IsBuilder T e B b bs w) (hB : Below w.heap.size w w') : Lib.IsBuilder T e B b bs w' := by
  rcases h with h | h
  · exact .inl (at_next h hB)
  · exact .inr (at_next h hB)
theorem BS.next {w0 : World} {b g cap : Nat} {mv : Value} {l : List Pt} {j : Nat} {w w' : World} (h : BS w0 b g cap mv l j w) (hB : Below w.heap.size w w') : BS w0 b g cap mv l j w' :=
  ⟨h.p.next hB, h.f.next hB, is_next h.d hB, h.b.trans (hB.mono h.b.size)⟩
theorem PgAt.step {b g cap : Nat} {mv : Value} {l : List Pt} {w w' : World} {B : Nat} (h : PgAt b g cap mv l w) (hB : Below B w w') (h1 : b < B) (h2 : g < B) : PgAt b g cap mv l w' :=
  ⟨(hB.cell (p := ⟨b, 0, none⟩) h1).trans h.c0, (hB.cell (p := ⟨b, 1, none⟩) h1).trans h.c1, Nat.lt_of_lt_of_le h.bl hB.size, Nat.lt_of_lt_of_le h.gl hB.size, h.ne, fun q => (hB.frozen (p := ⟨b, q, none⟩) h1).trans (h.fb q), fun q => (hB.frozen (p := ⟨g, q, none⟩) h2).trans (h.fg q), fun k x hk j u hj => (hB.cell (p := ⟨g, k * 9 + j, none⟩) h2).trans (h.at' k x hk j u hj)⟩
theorem strCells_eq (l : List UInt8) : Lib.strCells ⟨l.toArray⟩ = Lib.byteCells l := by simp [Lib.strCells, Lib.byteCells]
theorem BS.more {w0 : World} {b g cap : Nat} {mv : Value} {l : List Pt} {j : Nat} {x : Pt} {w w' : World} (h : BS w0 b g cap mv l j w) (hb : b < w0.heap.size) (hg : g < w0.heap.size) (hx : l[j]? = some x)
    (hw : Lib.BuilderAt 134 5 (w0.heap.size + 1) (w0.heap.size + 1) (.pointer (some ⟨w0.heap.size + 1, 0, none⟩)) (Lib.byteCells (pby l j) ++ Lib.strCells ⟨(Pn.bytN 4 (Pn.enc x.1).1).toArray⟩) w') (hB : Below (w0.heap.size + 1) w w') : BS w0 b g cap mv l (j + 1) w' := by
  refine ⟨h.p.step hB (by omega) (by omega), h.f.step hB (by omega), .inr ?_, h.b.trans (hB.mono (by omega))⟩
  have e : Lib.byteCells (pby l (j + 1)) = Lib.byteCells (pby l j) ++ Lib.strCells ⟨(Pn.bytN 4 (Pn.enc x.1).1).toArray⟩ := by
    rw [strCells_eq]
    simp [pby, hx, Lib.byteCells]
  rw [e]
  exact hw
set_option maxRecDepth 20000 in
set_option maxHeartbeats 4000000 in
theorem pbytes_long (b g cap : Nat) (mv sl : Value) (l : List Pt) (w : World) (h : PgAt b g cap mv l w) (ht : ∀ x ∈ l, x.2.1 = [] ∧ x.2.2.2 = 4 ∧ (Pn.enc x.1).2 = 0) (hn : l.length ≤ 1000000) :
    Calls Tryz.prog 81 #[.pointer (some ⟨b, 0, none⟩), sl] w fun e w' => e = .returned (.tuple #[.string ⟨(pby l l.length).toArray⟩, .agg #[.int .i64 0, .int .i64 0]]) ∧ Below w.heap.size w w' := by
  have HP := hid h
  have HT := hid ht
  have c0 := h.c0
  have bl := h.bl
  have hgl := h.gl
  clear h ht
  go_enter Tryz.func81, Tryz.ntmps81
  go_wp2_with fail
  clear c0
  go_loopw [16] (fun i wr => ∃ j : Nat, j ≤ l.length ∧ i = .int .i64 j ∧ BS w b g cap mv l j wr) (fun i _ => l.length - (intOf i).toNat)
  case atStart =>
    refine ⟨0, Nat.zero_le _, rfl, HP.out.next ?_, (CellsAt.new w [.int .i64 0, .int .i64 0] 39).alloc _, .inl ⟨Nat.le_refl _, .slice none 0 0, ?_, World.ownsRow_nil _ _ _ _, by simp [Value.ownBlock]⟩, ?_⟩
    · exact ((Below.refl _ _).alloc (Nat.le_refl _) _).alloc (by rw [World.size_alloc]; omega) _
    · have := heap_alloc_last (w.alloc (.cells #[.int .i64 0, .int .i64 0] 39)) (.cells #[.pointer none, .slice none 0 0] 134)
      rw [World.size_alloc] at this
      exact this
    · exact ((Below.refl _ _).alloc (Nat.le_refl _) _).alloc (by rw [World.size_alloc]; omega) _
  case round =>
    obtain ⟨j, hj, rfl, hS⟩ := hrel
    by_cases hlt : j < l.length
    · obtain ⟨⟨i, tg, line, size⟩, hx⟩ : ∃ x, l[j]? = some x := ⟨_, List.getElem?_eq_getElem hlt⟩
      obtain ⟨htg, hsz, hen⟩ := HT.out _ (List.mem_of_getElem? hx)
      simp only at htg hsz hen
      subst htg
      subst hsz
      have gl := hS.p.gl
      have p0 := hS.p.at' j _ hx 0 _ rfl
      have p1 := hS.p.at' j _ hx 1 _ rfl
      have p2 := hS.p.at' j _ hx 2 _ rfl
      have p3 := hS.p.at' j _ hx 3 _ rfl
      have p4 := hS.p.at' j _ hx 4 _ rfl
      have p5 := hS.p.at' j _ hx 5 _ rfl
      have p6 := hS.p.at' j _ hx 6 _ rfl
      have p7 := hS.p.at' j _ hx 7 _ rfl
      have p8 := hS.p.at' j _ hx 8 _ rfl
      simp only [Nat.add_zero] at p0 p1 p2 p3 p4 p5 p6 p7 p8
      have hji : (j : Int) < l.length := by omega
      have HS := hid hS
      have HX := hid hx
      have HPB := hid (fun w' => partBytes_long i i [] line w' hen)
      unfold apart Pn.partCells at HPB
      simp only [List.cons_append, List.nil_append] at HPB
      clear hS hx
      go_wp2_with fail
      have HS2 := hid (HS.out.next ((Below.refl _ _).alloc (Nat.le_refl _) (.cells #[.string ⟨#[]⟩, .int .i64 i.op, .int .i64 i.rd, .int .i64 i.rs1, .int .i64 i.rs2, .int .i64 i.imm, .string ⟨#[]⟩, .int .i64 line, .int .i64 4] 202)))
      have hcp := CellsAt.new wr [.string ⟨#[]⟩, .int .i64 i.op, .int .i64 i.rd, .int .i64 i.rs1, .int .i64 i.rs2, .int .i64 i.imm, .string ⟨#[]⟩, .int .i64 line, .int .i64 4] 202
      have k0 := cell_regrown (hcp.2.2 0 _ rfl)
      have k1 := cell_regrown (hcp.2.2 1 _ rfl)
      have k2 := cell_regrown (hcp.2.2 2 _ rfl)
      have k3 := cell_regrown (hcp.2.2 3 _ rfl)
      have k4 := cell_regrown (hcp.2.2 4 _ rfl)
      have k5 := cell_regrown (hcp.2.2 5 _ rfl)
      have k6 := cell_regrown (hcp.2.2 6 _ rfl)
      have k7 := cell_regrown (hcp.2.2 7 _ rfl)
      have k8 := cell_regrown (hcp.2.2 8 _ rfl)
      clear hcp p0 p1 p2 p3 p4 p5 p6 p7 p8 HS gl
      generalize wr.alloc _ = W at HS2 k0 k1 k2 k3 k4 k5 k6 k7 k8 ⊢
      refine wp_region_quiet_below (by kernel_rfl) (by kernel_rfl) ?_
      repeat (quiet_step (first
        | (go_at_call 146; exact Calls.regrown_of (placed_plain b g cap mv l j i line 4 sl _ (HS2.out.p.next (below_regrown _ _ _)) HX.out))
        | (go_at_call 145; exact Calls.regrown_of (HPB.out _))))
      refine wpQuiet_nil ?_
      intro _ hw'
      obtain ⟨⟨dq, osq⟩, hw''⟩ := hw'
      subst hw''
      have HS3 := hid (HS2.out.next (below_regrown W dq osq))
      clear k0 k1 k2 k3 k4 k5 k6 k7 k8 HS2 HPB
      simp only at *
      generalize Go.Sort.grow (redrawn W dq) osq = W3 at *
      go_wp2_with fail
      refine (writeString_is (w.heap.size + 1) (w.heap.size + 1) (Lib.byteCells (pby l j)) ⟨(Pn.bytN 4 (Pn.enc i).1).toArray⟩ _ HS3.out.d (by have := pby_len l j; simp [Lib.byteCells, ByteArray.size, Pn.bytN_len]; omega) (by have := HS3.out.f.1; omega)).mono ?_
      rintro e w5 ⟨rfl, hbd, hB5⟩
      have HS5 := hid (BS.more HS3.out bl hgl HX.out hbd hB5)
      clear hbd hB5
      go_wp2_with fail
      go_roundw
      case rel => exact ⟨j + 1, by omega, by go_num, HS5.out⟩
      case measure => simp [intOf]; omega
    · have hjn : j = l.length := by omega
      subst hjn
      have HS := hid hS
      have f0 := hS.f.2.2 0 _ rfl
      have f1 := hS.f.2.2 1 _ rfl
      clear hS
      go_wp2_with fail
      refine (Tryz.Builder_String_any (w.heap.size + 1) (w.heap.size + 1) (pby l l.length) _ HS.out.d (by have := HS.out.f.1; omega)).mono ?_
      rintro e w2 ⟨rfl, hB2⟩
      have q0 := (HS.out.f.step hB2 (by omega)).2.2 0 _ rfl
      have q1 := (HS.out.f.step hB2 (by omega)).2.2 1 _ rfl
      have qf := (HS.out.f.step hB2 (by omega)).2.1
      have HB2 := hid (HS.out.b.trans (hB2.mono (by omega)))
      clear hB2
      go_wp2_with fail
      refine bodyPost_ret (v := .tuple #[.string ⟨(pby l l.length).toArray⟩, .agg #[.int .i64 0, .int .i64 0]]) (by simp [results, Tryz.results81, go_sem, q0, q1]) rfl ⟨rfl, ?_⟩
      exact (HB2.out.setCell (Nat.le_refl _) _).setCell (Nat.le_refl _) _
end Go.Proofs.YtbmcofdodfcnnaaGreatDoor
namespace Go.Proofs.YtbmcofdodfcnnaaGreatDoor
open Go.RowKit
theorem infoPart : (Tryz.prog.info? 202).map (fun i => (i.zero, i.size, i.bytes)) = some (some (.agg #[.string ⟨#[]⟩, .int .i64 0, .int .i64 0, .int .i64 0, .int .i64 0, .int .i64 0, .string ⟨#[]⟩, .int .i64 0, .int .i64 0]), 9, 88) := by kernel_rfl
def AddOut (b : Nat) (mv v : Value) (n : Nat) (xs ys : List Value) (base : Nat) (w w' : World) : Prop :=
  ∃ v', CellsAt b [v', mv] w' ∧ w'.ownsRow base 202 9 v' (n + 1) (xs ++ ys) ∧ v'.ownBlock ≠ some b ∧ Keeps b v.ownBlock w w'
theorem add_out {b n base gg cap : Nat} {mv v : Value} {xs ys : List Value} {w W w9 : World} {o : Obj} (hB : Below w.heap.size w W) (hC : CellsAt b [v, mv] W)
    (hne : v.ownBlock ≠ some b) (hgrow : (W.alloc o).drew.grownBy w9 v.ownBlock) (hat : v.ownBlock = some gg ∨ gg = W.heap.size + 1)
    (hown : w9.ownsRow base 202 9 (.slice (some ⟨gg, 0, none⟩) (n + 1) cap) (n + 1) (xs ++ ys)) :
    AddOut b mv v n xs ys base w (w9.setCell ⟨b, 0, none⟩ (.slice (some ⟨gg, 0, none⟩) (n + 1) cap)) := by
  have hz := hC.1
  have hgc : gg ≠ b := by
    rcases hat with h | h
    · exact fun e => hne (by rw [h, e])
    · omega
  have hk1 : Keeps b v.ownBlock w (W.alloc o).drew := Keeps.of_below (hB.trans ((((Below.refl W.heap.size W).alloc (Nat.le_refl _) o).drew).mono hB.size))
  have hk2 : Keeps b v.ownBlock (W.alloc o).drew w9 := Keeps.of_grown hgrow
  have hC2 : CellsAt b [v, mv] (W.alloc o).drew := hC.next (((Below.refl W.heap.size W).alloc (Nat.le_refl _) o).drew)
  have hC9 : CellsAt b [v, mv] w9 := by
    have e := hgrow.block b hC2.1 (fun e => hne e.symm)
    exact ⟨Nat.lt_of_lt_of_le hC2.1 hgrow.size, fun q => (World.frozen?_of_block (a := ⟨b, q, none⟩) e).trans (hC2.2.1 q), fun j u hj => (World.cell?_of_block (a := ⟨b, j, none⟩) e).trans (hC2.2.2 j u hj)⟩
  refine ⟨_, hC9.set 0 _ (by simp), ownsRow_of_block hown (fun g hg => ?_), ?_, (hk1.trans hk2).trans (Keeps.setCell b _ w9 0 _)⟩
  · have : gg = g := by simpa [Value.ownBlock] using hg
    subst this
    exact Below.heap_setCell _ _ _ _ (fun e => hgc e)
  · show some gg ≠ some b
    intro e
    exact hgc (by simpa using e)
set_option maxRecDepth 100000 in
set_option maxHeartbeats 8000000 in
theorem add_one (b base n : Nat) (s : ByteArray) (number : Int) (mv v : Value) (xs : List Value) (i : Pn.Ins) (tg : List UInt8) (w : World) (hC : CellsAt b [v, mv] w) (hown : w.ownsRow base 202 9 v n xs) (hne : v.ownBlock ≠ some b) (hbase : base ≤ w.heap.size) (hn : n ≤ 1000000)
    (HRL : Calls Tryz.prog 193 #[.string s] w fun e w' => ∃ g, e = .returned (.tuple #[.agg #[.string ⟨#[]⟩, .slice (some ⟨g, 0, none⟩) 1 1], .int .i64 0]) ∧ w.heap.size ≤ g ∧ CellsAt g (Pn.partCells i tg) w' ∧ Below w.heap.size w w') :
    Calls Tryz.prog 141 #[.pointer (some ⟨b, 0, none⟩), .string s, .int .i64 number] w fun e w' => e = .returned (.int .i64 0) ∧ AddOut b mv v n xs (apart i tg number 0) base w w' := by
  obtain ⟨i0, hi, hz0, hz1, hz2⟩ := info_parts infoPart
  have HR := hid HRL
  have HC := hid hC
  have HO := hid hown
  clear HRL hC hown
  go_enter Tryz.func141, Tryz.ntmps141
  go_wp2_with fail
  refine (HR.out).mono ?_
  rintro e w1 ⟨g, rfl, hg, hG, hB1⟩
  have hG' := hid hG
  have HB1 := hid hB1
  clear hG hB1 HR
  go_wp2_with fail
  have HGW := hid (hG'.out.next ((Below.refl _ _).alloc (Nat.le_refl _) (.cells #[.string ⟨#[]⟩, .slice (some ⟨g, 0, none⟩) 1 1] 255)))
  have HBW : Hid (Below w.heap.size w (w1.alloc (.cells #[.string ⟨#[]⟩, .slice (some ⟨g, 0, none⟩) 1 1] 255))) := hid (HB1.out.alloc HB1.out.size _)
  clear hG' HB1
  generalize w1.alloc (.cells #[.string ⟨#[]⟩, .slice (some ⟨g, 0, none⟩) 1 1] 255) = W at *
  go_loopw [49] (fun k wr => (k = .int .i64 0 ∧ wr = W) ∨ (k = .int .i64 1 ∧ AddOut b mv v n xs (apart i tg number 0) base w wr)) (fun k _ => 2 - (intOf k).toNat)
  case atStart => exact .inl ⟨rfl, rfl⟩
  case round =>
    rcases hrel with ⟨rfl, rfl⟩ | ⟨rfl, hout⟩
    · have p0 := HGW.out.2.2 0 _ rfl
      have p1 := HGW.out.2.2 1 _ rfl
      have p2 := HGW.out.2.2 2 _ rfl
      have p3 := HGW.out.2.2 3 _ rfl
      have p4 := HGW.out.2.2 4 _ rfl
      have p5 := HGW.out.2.2 5 _ rfl
      have p6 := HGW.out.2.2 6 _ rfl
      have hgl := HGW.out.1
      go_wp2_with fail
      have HOW := hid (own_next (own_next HO.out HBW.out) ((Below.refl _ _).alloc (Nat.le_refl _) (.cells #[.string ⟨#[]⟩, .int .i64 i.op, .int .i64 i.rd, .int .i64 i.rs1, .int .i64 i.rs2, .int .i64 i.imm, .string ⟨tg.toArray⟩] 193)))
      have HBV := hid (HBW.out.alloc HBW.out.size (.cells #[.string ⟨#[]⟩, .int .i64 i.op, .int .i64 i.rd, .int .i64 i.rs1, .int .i64 i.rs2, .int .i64 i.imm, .string ⟨tg.toArray⟩] 193))
      have HCV := hid (HC.out.next HBV.out)
      have HN : Hid (CellsAt wr.heap.size (Pn.partCells i tg) (wr.alloc (.cells #[.string ⟨#[]⟩, .int .i64 i.op, .int .i64 i.rd, .int .i64 i.rs1, .int .i64 i.rs2, .int .i64 i.imm, .string ⟨tg.toArray⟩] 193))) := hid (CellsAt.new wr (Pn.partCells i tg) 193)
      have hwz := HBV.out.size
      clear p0 p1 p2 p3 p4 p5 p6 hgl HGW
      generalize wr.alloc (.cells #[.string ⟨#[]⟩, .int .i64 i.op, .int .i64 i.rd, .int .i64 i.rs1, .int .i64 i.rs2, .int .i64 i.imm, .string ⟨tg.toArray⟩] 193) = W at *
      have p0 := HN.out.2.2 0 _ rfl
      have p1 := HN.out.2.2 1 _ rfl
      have p2 := HN.out.2.2 2 _ rfl
      have p3 := HN.out.2.2 3 _ rfl
      have p4 := HN.out.2.2 4 _ rfl
      have p5 := HN.out.2.2 5 _ rfl
      have p6 := HN.out.2.2 6 _ rfl
      have pl := HN.out.1
      have c0 := HCV.out.2.2 0 _ rfl
      have cf := HCV.out.2.1 0
      have hbW := HCV.out.1
      have hbaseW : base ≤ W.heap.size := by omega
      go_region_law
        ((refine step_append_lies _ (by rfl) _ _ _ (by rfl) base 202 i0 _ 9 88 Tryz.underlying145 hi hz0 hz1 hz2 rfl (by omega) v n xs (by rfl) ((HOW.out.alloc _).drew)
            ⟨W.heap.size, 0, none⟩ 1 1 (apart i tg number 0) (by rfl) (by rfl) (World.news_of_block (cs := (apart i tg number 0).toArray) (t := 202) (fr := (0, 0)) (heap_alloc_new W _)) (by simp [Value.oneCell', apart, Pn.partCells])
            (by omega) (by unfold maxLen; omega) (by omega) (by simp; omega) (W.heap.size + 1) (by simp) ?_; intro gg cap w9 hown9 hgrow hat hlt; have q1 : w9.cell? ⟨b, 0, none⟩ = some v := (hgrow.cell_far _ (by simp; omega) (Ne.symm hne)).trans (by simp [c0, World.cell?_alloc_some]); have qf : w9.frozen? ⟨b, 0, none⟩ = false := (hgrow.frozen_far _ (by simp; omega) (Ne.symm hne)).trans (by simp [cf, World.frozen?_alloc_old, Nat.ne_of_lt hbW])))
      all_goals
        have HOUT := hid (add_out HBV.out HCV.out hne hgrow hat hown9)
        clear hown9 hgrow hat q1 qf hlt
        generalize w9.setCell ⟨b, 0, none⟩ _ = Z at *
        go_wp2_with fail
        go_roundw
        case rel => exact .inr ⟨by go_num, HOUT.out⟩
        case measure => simp [intOf]
    · go_wp2_with fail
      go_ret
      exact ⟨rfl, hout⟩
end Go.Proofs.YtbmcofdodfcnnaaGreatDoor
namespace Go.Proofs.YtbmcofdodfcnnaaGreatDoor
open Go.RowKit Go.Maps
def rpl (is : List Pn.Ins) : List Pt := is.mapIdx fun k i => (i, [], (k : Int) + 1, 0)
theorem rpl_len (is : List Pn.Ins) : (rpl is).length = is.length := by simp [rpl]
theorem rpl_at (is : List Pn.Ins) (k : Nat) (i : Pn.Ins) (h : is[k]? = some i) : (rpl is)[k]? = some (i, [], (k : Int) + 1, 0) := by simp [rpl, h]
def rpc (is : List Pn.Ins) (j : Nat) : List Value := ((rpl is).take j).flatMap ptC
theorem rpc_succ (is : List Pn.Ins) (j : Nat) (i : Pn.Ins) (h : is[j]? = some i) : rpc is (j + 1) = rpc is j ++ apart i [] ((j : Int) + 1) 0 := by
  have hj : j < (rpl is).length := by
    rw [rpl_len]
    rcases Nat.lt_or_ge j is.length with h' | h'
    · exact h'
    · rw [List.getElem?_eq_none h'] at h; cases h
  have e : (rpl is).take (j + 1) = (rpl is).take j ++ [(i, [], (j : Int) + 1, 0)] := by
    rw [List.take_add_one, rpl_at is j i h]
    rfl
  unfold rpc
  rw [e, List.flatMap_append]
  simp [ptC]
theorem own_parts {w : World} {base : Nat} {v : Value} {l : List Pt} (h : w.ownsRow base 202 9 v l.length (l.flatMap ptC)) (hn : 0 < l.length) :
    ∃ g cap, v = .slice (some ⟨g, 0, none⟩) l.length cap ∧ base ≤ g ∧ g < w.heap.size ∧ (∀ q, w.frozen? ⟨g, q, none⟩ = false) ∧ ∀ k x, l[k]? = some x → ∀ j u, (ptC x)[j]? = some u → w.cell? ⟨g, k * 9 + j, none⟩ = some u := by
  have h' := h
  obtain ⟨h1, ⟨rfl, h0⟩ | ⟨g, cap, cur, rfl, hg, hc, h3⟩⟩ := h
  · omega
  · refine ⟨g, cap, rfl, hg, (h'.lt g rfl).2, fun q => h'.frozenAt q, fun k x hk j u hu => ?_⟩
    have hkl : k < l.length := by
      rcases Nat.lt_or_ge k l.length with h | h
      · exact h
      · rw [List.getElem?_eq_none h] at hk; cases hk
    have hj9 : j < 9 := by
      rcases Nat.lt_or_ge j 9 with h | h
      · exact h
      · rw [List.getElem?_eq_none (by simpa [ptC, apart, Pn.partCells] using h)] at hu; cases hu
    have hf := Pn.flat_get ptC 9 (fun _ => rfl) l k j hj9 hkl
    rw [hk] at hf
    simp only [Option.bind_some] at hf
    rw [hu] at hf
    have := h'.cells rfl (9 * k + j) u hf
    have hadd : (⟨g, 0, none⟩ : Addr).add (9 * k + j) = ⟨g, k * 9 + j, none⟩ := by
      simp only [Addr.add]
      rw [Nat.mul_comm 9 k]; simp; omega
    rw [hadd] at this
    exact this
structure RP (w0 : World) (ss : List Value) (is : List Pn.Ins) (j : Nat) (v : Value) (w : World) : Prop where
  r : CellsAt w0.heap.size [.slice none 0 0, .map none] w
  e : CellsAt (w0.heap.size + 1) [.int .i64 0, .int .i64 0] w
  m : w.ownsMap (H := Unit) Tryz.prog 9 (plainElem Tryz.prog 3) (w0.heap.size + 2) 0 (.map [])
  p : CellsAt (w0.heap.size + 3) [v, .map (some (w0.heap.size + 2))] w
  s : CellsAt (w0.heap.size + 4) ss w
  o : w.ownsRow (w0.heap.size + 5) 202 9 v j (rpc is j)
  b : Below w0.heap.size w0 w
theorem RP.next {w0 : World} {ss : List Value} {is : List Pn.Ins} {j : Nat} {v : Value} {w w' : World} (h : RP w0 ss is j v w) (hB : Below w.heap.size w w') : RP w0 ss is j v w' :=
  ⟨h.r.next hB, h.e.next hB, by
    have hlt := h.m.lt
    obtain ⟨es, clock, hb, F, hs, hD⟩ := h.m
    exact ⟨es, clock, (hB.block _ hlt).trans hb, F, hs, hD⟩, h.p.next hB, h.s.next hB, own_next h.o hB, h.b.trans (hB.mono h.b.size)⟩
theorem RP.more {w0 : World} {ss : List Value} {is : List Pn.Ins} {j : Nat} {v : Value} {i : Pn.Ins} {w w' : World} (h : RP w0 ss is j v w) (hi : is[j]? = some i) (ha : AddOut (w0.heap.size + 3) (.map (some (w0.heap.size + 2))) v j (rpc is j) (apart i [] ((j : Int) + 1) 0) (w0.heap.size + 5) w w') : ∃ v', RP w0 ss is (j + 1) v' w' := by
  obtain ⟨v', hp, ho, hne, hk⟩ := ha
  have hlt := fun k hk => (h.o.lt k hk).1
  have hne' : ∀ d, d < w0.heap.size + 5 → v.ownBlock ≠ some d := fun d hd e => by have := hlt d e; omega
  refine ⟨v', h.r.keeps hk (by omega) (hne' _ (by omega)), h.e.keeps hk (by omega) (hne' _ (by omega)), ?_, hp, h.s.keeps hk (by omega) (hne' _ (by omega)), by rw [rpc_succ is j i hi]; exact ho, hk.below h.b (by omega) (fun d hd => by have := hlt d hd; omega) (Nat.le_refl _)⟩
  have hml := h.m.lt
  obtain ⟨es, clock, hb, F, hs, hD⟩ := h.m
  exact ⟨es, clock, (hk.block _ hml (by omega) (hne' _ (by omega))).trans hb, F, hs, hD⟩
theorem rp_b4 (w : World) (a b c d : Obj) : Below w.heap.size w ((((w.alloc a).alloc b).alloc c).alloc d) := by
  refine ((((Below.refl w.heap.size w).alloc ?_ _).alloc ?_ _).alloc ?_ _).alloc ?_ _ <;> (try simp only [World.size_alloc]) <;> omega
theorem rp_start (w : World) (ss : List Value) (is : List Pn.Ins) : RP w ss is 0 (.slice none 0 0) (((((w.alloc (.cells #[.slice none 0 0, .map none] 148)).alloc (.cells #[.int .i64 0, .int .i64 0] 39)).alloc (.map #[] 0)).alloc (.cells #[.slice none 0 0, .map (some (w.heap.size + 1 + 1))] 148)).alloc (.cells ss.toArray 9)) := by
  have h1 := CellsAt.new w [.slice none 0 0, .map none] 148
  have h2 := CellsAt.new (w.alloc (.cells #[.slice none 0 0, .map none] 148)) [.int .i64 0, .int .i64 0] 39
  have h3 := World.ownsMap_made (H := Unit) ((w.alloc (.cells #[.slice none 0 0, .map none] 148)).alloc (.cells #[.int .i64 0, .int .i64 0] 39)) Tryz.prog 9 (plainElem Tryz.prog 3)
  have h4 := CellsAt.new (((w.alloc (.cells #[.slice none 0 0, .map none] 148)).alloc (.cells #[.int .i64 0, .int .i64 0] 39)).alloc (.map #[] 0)) [.slice none 0 0, .map (some (w.heap.size + 1 + 1))] 148
  have h5 := CellsAt.new ((((w.alloc (.cells #[.slice none 0 0, .map none] 148)).alloc (.cells #[.int .i64 0, .int .i64 0] 39)).alloc (.map #[] 0)).alloc (.cells #[.slice none 0 0, .map (some (w.heap.size + 1 + 1))] 148)) ss 9
  simp only [World.size_alloc] at h2 h3 h4 h5
  exact ⟨(((h1.alloc _).alloc _).alloc _).alloc _, ((h2.alloc _).alloc _).alloc _, (h3.alloc _).alloc _, h4.alloc _, h5, World.ownsRow_nil _ _ _ _, (rp_b4 w _ _ _ _).alloc (by simp only [World.size_alloc]; omega) _⟩
theorem own_far {w : World} {base g n cap : Nat} {e : TypeId} {size : Nat} {m : Nat} {xs : List Value} (h : w.ownsRow base e size (.slice (some ⟨g, 0, none⟩) n cap) m xs) (c q : Nat) (u : Value) (hc : c ≠ g) : (w.setCell ⟨c, q, none⟩ u).ownsRow base e size (.slice (some ⟨g, 0, none⟩) n cap) m xs :=
  ownsRow_of_block h (fun k hk => by
    have : g = k := by simpa [Value.ownBlock] using hk
    subst this
    exact Below.heap_setCell _ _ _ _ (fun e => hc e.symm))
theorem strKey : Keyed Tryz.prog 9 := string_keyed Tryz.underlying9
theorem zeroI (w : World) : (zeroValue 3).run Tryz.prog w = .ok (.int .i64 0) w := by kernel_rfl
theorem rp_look {w0 : World} {ss : List Value} {is : List Pn.Ins} {j : Nat} {v : Value} {w : World} (h : RP w0 ss is j v w) : ∃ c, (Instr.lookup 146 (.map (some (w0.heap.size + 2))) (.string ⟨#[]⟩) true).run Tryz.prog w = .ok (.tuple #[.int .i64 c, .bool false]) w := by
  obtain ⟨v, ps, hrun, hv⟩ := h.m.look_ok strKey Tryz.underlying146 (zeroI _) (plainElem_int Tryz.underlying3 (by decide)) (Go.WideMaps.keyOf_string_mk Tryz.underlying9 (s := ⟨#[]⟩) (by unfold maxLen; decide))
  obtain ⟨c, rfl, _, _⟩ := plainElem_int_inv Tryz.underlying3 hv
  exact ⟨c, hrun⟩
set_option maxRecDepth 20000 in
set_option maxHeartbeats 4000000 in
theorem readProgram_ins (s : ByteArray) (ls : List ByteArray) (is : List Pn.Ins) (w : World) (hE : Env w) (hs : s.size ≤ 100000) (hls : Lib.splitB ⟨#[10]⟩ 0 (Lib.countB s ⟨#[10]⟩) s = ls) (hil : is.length = ls.length)
    (hRL : ∀ (j : Nat) (t : ByteArray) (i : Pn.Ins), ls[j]? = some t → is[j]? = some i → ∀ W, Env W → Calls Tryz.prog 193 #[.string t] W fun e w' => ∃ g, e = .returned (.tuple #[.agg #[.string ⟨#[]⟩, .slice (some ⟨g, 0, none⟩) 1 1], .int .i64 0]) ∧ W.heap.size ≤ g ∧ CellsAt g (Pn.partCells i []) w' ∧ Below W.heap.size W w') :
    Calls Tryz.prog 79 #[.string s] w fun e w' => ∃ v mb, e = .returned (.tuple #[.agg #[v, .map (some mb)], .agg #[.int .i64 0, .int .i64 0]]) ∧ w'.ownsRow w.heap.size 202 9 v is.length ((rpl is).flatMap ptC) ∧ Below w.heap.size w w' := by
  have hll : Lib.countB s ⟨#[10]⟩ + 1 = ls.length := by rw [← hls, Lib.splitB_all ⟨#[10]⟩ (by decide) 0 _ s rfl]
  have hmm := @run_makeMap Tryz.prog
  have HSP := hid (fun W m hm => Tryz.strings_Split s ⟨#[10]⟩ m W (by omega) hm (by decide))
  rw [hls, hll] at HSP
  have HEW := hid (fun w' (hB : Below w.heap.size w w') => hE.below hB hE.1)
  have hn0 : ls.length ≤ 100001 := by
    have := Lib.countB_mul_le ⟨#[10]⟩ (by decide) _ s (Nat.le_refl _)
    have e1 : (⟨#[10]⟩ : ByteArray).size = 1 := rfl
    rw [e1] at this
    omega
  have hpos : 0 < ls.length := by omega
  have HRL := hid hRL
  obtain ⟨m, hm0⟩ := hE.2.2.1
  have hg0 := hE.1
  clear hRL hE
  go_enter Tryz.func79, Tryz.ntmps79
  go_wp2_with fail
  refine (HSP.out _ m ((rp_b4 w _ _ _ _).cell (p := ⟨0, 0, none⟩) (by show 0 < w.heap.size; omega) |>.trans hm0)).mono ?_
  rintro e w1 ⟨rfl, hw1⟩
  have HR0 : Hid (RP w (ls.map Value.string) is 0 (.slice none 0 0) w1) := hid (by
    subst hw1
    exact rp_start w _ is)
  clear hw1 HSP hm0
  go_wp2_with fail
  go_loopw [17] (fun i wr => ∃ j v, j ≤ ls.length ∧ i = .int .i64 (j : Nat) ∧ RP w (ls.map Value.string) is j v wr) (fun i _ => ls.length - (intOf i).toNat)
  case atStart => exact ⟨0, _, Nat.zero_le _, rfl, HR0.out⟩
  case round =>
    obtain ⟨j, v, hj, rfl, hR⟩ := hrel
    by_cases hlt : j < ls.length
    · obtain ⟨t, ht⟩ : ∃ t, ls[j]? = some t := ⟨_, List.getElem?_eq_getElem hlt⟩
      obtain ⟨i, hi⟩ : ∃ i, is[j]? = some i := ⟨_, List.getElem?_eq_getElem (by omega)⟩
      have HR := hid hR
      have cs := hR.s.2.2 j (.string t) (by simp [ht])
      have hsl := hR.s.1
      have hji : (j : Int) < ls.length := by omega
      have hji' : (j : Int) < 1000000 := by omega
      have HA := hid (add_one (w.heap.size + 3) (w.heap.size + 5) j t ((j : Int) + 1) (.map (some (w.heap.size + 2))) v (rpc is j) i [] wr hR.p hR.o (fun e => by have := (hR.o.lt _ e).1; omega) (by have := hR.s.1; omega) (by omega) (HRL.out j t i ht hi wr (HEW.out wr hR.b)))
      have HI := hid hi
      clear hR ht hi
      go_wp2_with fail
      refine HA.out.mono ?_
      rintro e w2 ⟨rfl, hout⟩
      obtain ⟨v', hR'⟩ := HR.out.more HI.out hout
      have HR' := hid hR'
      clear hout hR'
      go_wp2_with fail
      go_roundw
      case rel => exact ⟨j + 1, v', by omega, by go_num, HR'.out⟩
      case measure => simp [intOf]; omega
    · have hjn : j = ls.length := by omega
      subst hjn
      obtain ⟨wa, hwa⟩ : ∃ x, x = wr := ⟨_, rfl⟩
      subst hwa
      have HR := hid hR
      have ho : wa.ownsRow (w.heap.size + 5) 202 9 v (rpl is).length ((rpl is).flatMap ptC) := by
        have := hR.o
        unfold rpc at this
        rw [← hil] at this
        rw [rpl_len]
        rwa [List.take_of_length_le (by rw [rpl_len]; omega)] at this
      obtain ⟨g, cap, rfl, hg, hgl, hfg, hat⟩ := own_parts ho (by rw [rpl_len]; omega)
      rw [rpl_len, hil] at hR HR ho
      have c0 := hR.p.2.2 0 _ rfl
      have hpl := hR.p.1
      clear hR
      go_wp2_with fail
      go_loopw [37] (fun i wx => ∃ j : Nat, j ≤ ls.length ∧ i = .int .i64 j ∧ Below wa.heap.size wa wx) (fun i _ => ls.length - (intOf i).toNat)
      case atStart => exact ⟨0, Nat.zero_le _, rfl, Below.refl _ _⟩
      case round =>
        obtain ⟨j, hj, rfl, hB⟩ := hrel
        by_cases hlt : j < ls.length
        · obtain ⟨i, hi⟩ : ∃ i, is[j]? = some i := ⟨_, List.getElem?_eq_getElem (by omega)⟩
          have hx := rpl_at is j i hi
          have HRj := hid (HR.out.next hB)
          have HBj := hid hB
          have gl : g < wr.heap.size := Nat.lt_of_lt_of_le hgl hB.size
          have p0 := (hB.cell (p := ⟨g, j * 9 + 0, none⟩) hgl).trans (hat j _ hx 0 _ rfl)
          have p1 := (hB.cell (p := ⟨g, j * 9 + 1, none⟩) hgl).trans (hat j _ hx 1 _ rfl)
          have p2 := (hB.cell (p := ⟨g, j * 9 + 2, none⟩) hgl).trans (hat j _ hx 2 _ rfl)
          have p3 := (hB.cell (p := ⟨g, j * 9 + 3, none⟩) hgl).trans (hat j _ hx 3 _ rfl)
          have p4 := (hB.cell (p := ⟨g, j * 9 + 4, none⟩) hgl).trans (hat j _ hx 4 _ rfl)
          have p5 := (hB.cell (p := ⟨g, j * 9 + 5, none⟩) hgl).trans (hat j _ hx 5 _ rfl)
          have p6 := (hB.cell (p := ⟨g, j * 9 + 6, none⟩) hgl).trans (hat j _ hx 6 _ rfl)
          have p7 := (hB.cell (p := ⟨g, j * 9 + 7, none⟩) hgl).trans (hat j _ hx 7 _ rfl)
          have p8 := (hB.cell (p := ⟨g, j * 9 + 8, none⟩) hgl).trans (hat j _ hx 8 _ rfl)
          simp only [Nat.add_zero] at p0 p1 p2 p3 p4 p5 p6 p7 p8
          have hji : (j : Int) < ls.length := by omega
          have c1 := HRj.out.p.2.2 1 _ rfl
          have hpl2 := HRj.out.p.1
          clear hB hx c0
          obtain ⟨cq, hrun⟩ := rp_look (HRj.out.next ((Below.refl _ _).alloc (Nat.le_refl _) (.cells #[.string ⟨#[]⟩, .int .i64 i.op, .int .i64 i.rd, .int .i64 i.rs1, .int .i64 i.rs2, .int .i64 i.imm, .string ⟨#[]⟩, .int .i64 ((j : Int) + 1), .int .i64 0] 202)))
          have HB2 := hid (HBj.out.alloc HBj.out.size (.cells #[.string ⟨#[]⟩, .int .i64 i.op, .int .i64 i.rd, .int .i64 i.rs1, .int .i64 i.rs2, .int .i64 i.imm, .string ⟨#[]⟩, .int .i64 ((j : Int) + 1), .int .i64 0] 202))
          go_wp2_with fail
          go_roundw
          case rel => exact ⟨j + 1, by omega, by go_num, HB2.out⟩
          case measure => simp [intOf]; omega
        · have hjn : j = ls.length := by omega
          subst hjn
          have HRj := hid (HR.out.next hB)
          have y0 := HRj.out.p.2.2 0 _ rfl
          have y1 := HRj.out.p.2.2 1 _ rfl
          have r0 := HRj.out.r.2.2 0 _ rfl
          have r1 := HRj.out.r.2.2 1 _ rfl
          have rf := HRj.out.r.2.1
          have e0 := HRj.out.e.2.2 0 _ rfl
          have e1 := HRj.out.e.2.2 1 _ rfl
          have ef := HRj.out.e.2.1
          clear hB c0
          go_wp2_with fail
          have HOB : Hid (wr.ownsRow w.heap.size 202 9 (.slice (some ⟨g, 0, none⟩) ls.length cap) is.length ((rpl is).flatMap ptC) ∧ Below w.heap.size w wr) := hid ⟨by
            have := own_base (HRj.out.o) (base' := w.heap.size) (by omega)
            unfold rpc at this
            rw [List.take_of_length_le (by rw [rpl_len]; omega)] at this
            rw [hil]
            exact this, HRj.out.b⟩
          refine bodyPost_ret (v := .tuple #[.agg #[.slice (some ⟨g, 0, none⟩) ls.length cap, .map (some (w.heap.size + 2))], .agg #[.int .i64 0, .int .i64 0]]) (by simp [results, Tryz.results79, go_sem, r0, r1, e0, e1]) rfl ⟨_, _, rfl, ?_, ?_⟩
          · exact own_far (own_far (own_far (own_far HOB.out.1 _ _ _ (by omega)) _ _ _ (by omega)) _ _ _ (by omega)) _ _ _ (by omega)
          · exact (((HOB.out.2.setCell (by simp) _).setCell (by simp) _).setCell (by simp) _).setCell (by simp) _
end Go.Proofs.YtbmcofdodfcnnaaGreatDoor
namespace Go.Proofs.YtbmcofdodfcnnaaGreatDoor
open Go.RowKit Go.Maps
def apl (is : List Pn.Ins) : List Pt := sz4 (rpl is) is.length
theorem apl_len (is : List Pn.Ins) : (apl is).length = is.length := by rw [apl, sz4_len, rpl_len]
theorem apl_at (is : List Pn.Ins) (k : Nat) (i : Pn.Ins) (h : is[k]? = some i) : (apl is)[k]? = some (i, [], (k : Int) + 1, 4) := by
  have hk : k < is.length := by
    rcases Nat.lt_or_ge k is.length with h' | h'
    · exact h'
    · rw [List.getElem?_eq_none h'] at h; cases h
  rw [apl, sz4_at _ _ _ _ (rpl_at is k i h), if_pos hk]
theorem apl_mem (is : List Pn.Ins) (x : Pt) (hx : x ∈ apl is) : x.1 ∈ is ∧ x.2.1 = [] ∧ x.2.2.2 = 4 := by
  obtain ⟨k, hk⟩ := List.getElem?_of_mem hx
  have hkl : k < is.length := by
    rcases Nat.lt_or_ge k (apl is).length with h | h
    · rwa [apl_len] at h
    · rw [List.getElem?_eq_none h] at hk; cases hk
  rw [apl_at is k _ (List.getElem?_eq_getElem hkl)] at hk
  cases hk
  exact ⟨List.getElem_mem hkl, rfl, rfl⟩
theorem apl_psz (is : List Pn.Ins) : ∀ k, k ≤ is.length → psz (apl is) k = 4 * (k : Int)
  | 0, _ => rfl
  | k + 1, h => by
    have hx := apl_at is k _ (List.getElem?_eq_getElem (show k < is.length by omega))
    simp only [psz, hx]
    rw [apl_psz is k (by omega)]
    omega
theorem rpl_tg (is : List Pn.Ins) (x : Pt) (hx : x ∈ rpl is) : x.2.1 = [] := by
  obtain ⟨k, hk⟩ := List.getElem?_of_mem hx
  have hkl : k < is.length := by
    rcases Nat.lt_or_ge k (rpl is).length with h | h
    · rwa [rpl_len] at h
    · rw [List.getElem?_eq_none h] at hk; cases hk
  rw [rpl_at is k _ (List.getElem?_eq_getElem hkl)] at hk
  cases hk
  rfl
set_option maxRecDepth 20000 in
set_option maxHeartbeats 4000000 in
theorem assemble_ins (s : ByteArray) (is : List Pn.Ins) (w : World) (hs : s.size ≤ 2000) (hi0 : 0 < is.length) (hi1 : 4 * is.length ≤ 1024) (hen : ∀ i ∈ is, (Pn.enc i).2 = 0)
    (HRP : ∀ W, Below w.heap.size w W → Calls Tryz.prog 79 #[.string s] W fun e w' => ∃ v mb, e = .returned (.tuple #[.agg #[v, .map (some mb)], .agg #[.int .i64 0, .int .i64 0]]) ∧ w'.ownsRow W.heap.size 202 9 v is.length ((rpl is).flatMap ptC) ∧ Below W.heap.size W w') :
    Calls Tryz.prog 42 #[.string s, .bool false] w fun e w' => e = .returned (.tuple #[.string ⟨(pby (apl is) is.length).toArray⟩, .agg #[.int .i64 0, .int .i64 0]]) ∧ Below w.heap.size w w' := by
  have HR := hid (HRP _ ((Below.refl _ _).alloc (Nat.le_refl _) (.cells #[.int .i64 0, .int .i64 0] 39)))
  have HEN := hid hen
  clear HRP hen
  have hs' : (s.size : Int) ≤ 2000 := by omega
  go_enter Tryz.func42, Tryz.ntmps42
  go_wp2_with fail
  refine HR.out.mono ?_
  rintro e w1 ⟨v, mb, rfl, hown, hB1⟩
  have ho : w1.ownsRow (w.alloc (.cells #[.int .i64 0, .int .i64 0] 39)).heap.size 202 9 v (rpl is).length ((rpl is).flatMap ptC) := by rw [rpl_len]; exact hown
  obtain ⟨g, cap, rfl, hg, hgl, hfg, hat⟩ := own_parts ho (by rw [rpl_len]; exact hi0)
  rw [rpl_len] at ho
  have HF1 := hid ((CellsAt.new w [.int .i64 0, .int .i64 0] 39).next hB1)
  have HB1 : Hid (Below w.heap.size w w1) := hid (((Below.refl _ _).alloc (Nat.le_refl _) _).trans (hB1.mono (by simp)))
  rw [World.size_alloc] at hg
  clear hB1 hown ho HR
  have HPG : Hid (PgAt w1.heap.size g cap (.map (some mb)) (rpl is) ((w1.alloc (.cells #[.slice (some ⟨g, 0, none⟩) (rpl is).length cap, .map (some mb)] 148)).alloc (.cells #[.int .i64 0, .int .i64 0] 39))) := hid (by
    have hc := (CellsAt.new w1 [.slice (some ⟨g, 0, none⟩) (rpl is).length cap, .map (some mb)] 148).alloc (.cells #[.int .i64 0, .int .i64 0] 39)
    have hB : Below w1.heap.size w1 ((w1.alloc (.cells #[.slice (some ⟨g, 0, none⟩) (rpl is).length cap, .map (some mb)] 148)).alloc (.cells #[.int .i64 0, .int .i64 0] 39)) := ((Below.refl _ _).alloc (Nat.le_refl _) _).alloc (by rw [World.size_alloc]; omega) _
    exact ⟨hc.2.2 0 _ rfl, hc.2.2 1 _ rfl, hc.1, Nat.lt_of_lt_of_le hgl hB.size, by omega, hc.2.1, fun q => (hB.frozen (p := ⟨g, q, none⟩) hgl).trans (hfg q), fun k x hk j u hj => (hB.cell (p := ⟨g, k * 9 + j, none⟩) hgl).trans (hat k x hk j u hj)⟩)
  have HFF := hid ((HF1.out.alloc (.cells #[.slice (some ⟨g, 0, none⟩) (rpl is).length cap, .map (some mb)] 148)).alloc (.cells #[.int .i64 0, .int .i64 0] 39))
  have HBB : Hid (Below w.heap.size w ((w1.alloc (.cells #[.slice (some ⟨g, 0, none⟩) (rpl is).length cap, .map (some mb)] 148)).alloc (.cells #[.int .i64 0, .int .i64 0] 39))) := hid ((HB1.out.alloc HB1.out.size _).alloc (by rw [World.size_alloc]; have := HB1.out.size; omega) _)
  have hbw := HF1.out.1
  clear hat hfg HF1 HB1
  go_wp2_with fail
  generalize (w1.alloc (.cells #[.slice (some ⟨g, 0, none⟩) (rpl is).length cap, .map (some mb)] 148)).alloc (.cells #[.int .i64 0, .int .i64 0] 39) = W at *
  have HLO := hid (layOut_long w1.heap.size g cap (.map (some mb)) (rpl is) W HPG.out (rpl_tg is) (by rw [rpl_len]; omega) (by
    intro k hk
    rw [rpl_len] at hk ⊢
    have := apl_psz is k hk
    unfold apl at this
    omega))
  rw [rpl_len] at HLO
  refine HLO.out.mono ?_
  rintro e w2 ⟨v, rfl, hown, hpg, hkp⟩
  have hown' : w2.ownsRow W.heap.size 3 1 v (plcs (apl is) is.length).length (ints (plcs (apl is) is.length)) := hown
  obtain ⟨ao, cp, rfl, hIA⟩ := own_ints hown'
  obtain ⟨q, rfl, hq1, hq2, hqc⟩ := hIA.at' is.length (by rw [plcs_len]; omega)
  rw [plcs_at _ _ _ (Nat.le_refl _), apl_psz is _ (Nat.le_refl _)] at hqc
  rw [plcs_len] at *
  have HPG2 : Hid (PgAt w1.heap.size g cap (.map (some mb)) (apl is) w2) := hid hpg
  have c0 := HPG2.out.c0
  rw [apl_len] at c0
  have hbl := HPG2.out.bl
  have HBY := hid (fun sl => pbytes_long w1.heap.size g cap (.map (some mb)) sl (apl is) w2 HPG2.out (fun x hx => ⟨(apl_mem is x hx).2.1, (apl_mem is x hx).2.2, HEN.out _ (apl_mem is x hx).1⟩) (by rw [apl_len]; omega))
  rw [apl_len] at HBY
  have HB2 : Hid (Below w.heap.size w w2) := hid (hkp.below HBB.out (by omega) (Nat.le_refl _))
  have HF2 : Hid (CellsAt w.heap.size [.int .i64 0, .int .i64 0] w2) := hid (by
    have e := hkp.block w.heap.size HFF.out.1 (by omega)
    exact ⟨Nat.lt_of_lt_of_le HFF.out.1 hkp.size, fun p => (World.frozen?_of_block (a := ⟨w.heap.size, p, none⟩) e).trans (HFF.out.2.1 p), fun j u hj => (World.cell?_of_block (a := ⟨w.heap.size, j, none⟩) e).trans (HFF.out.2.2 j u hj)⟩)
  clear hown hown' hpg hkp hIA HLO HPG HFF HBB
  have hlt1 : (is.length : Int) < ((is.length + 1 : Nat) : Int) := by omega
  have hlt2 : (is.length : Int) < (is.length : Int) + 1 := by omega
  have hlt3 : 4 * (is.length : Int) ≤ 1024 := by omega
  go_wp2_with fail
  refine (HBY.out _).mono ?_
  rintro e w3 ⟨rfl, hB3⟩
  have q0 := (HF2.out.next hB3).2.2 0 _ rfl
  have q1 := (HF2.out.next hB3).2.2 1 _ rfl
  have qf := (HF2.out.next hB3).2.1
  have HB3 := hid (HB2.out.trans (hB3.mono HB2.out.size))
  clear hB3 HBY c0 hqc
  go_wp2_with fail
  refine bodyPost_ret (v := .tuple #[.string ⟨(pby (apl is) is.length).toArray⟩, .agg #[.int .i64 0, .int .i64 0]]) (by simp [results, Tryz.results42, go_sem, q0, q1]) rfl ⟨rfl, ?_⟩
  exact (HB3.out.setCell (by simp) _).setCell (by simp) _
end Go.Proofs.YtbmcofdodfcnnaaGreatDoor
namespace Go.Proofs.YtbmcofdodfcnnaaGreatDoor
open Go.RowKit Go.Maps
def awT : ByteArray := ⟨#[97, 100, 100, 105, 32, 120, 53, 44, 32, 120, 48, 44, 32, 55, 10, 101, 98, 114, 101, 97, 107]⟩
def awL0 : ByteArray := ⟨#[97, 100, 100, 105, 32, 120, 53, 44, 32, 120, 48, 44, 32, 55]⟩
def awL1 : ByteArray := ⟨#[101, 98, 114, 101, 97, 107]⟩
def awI0 : Pn.Ins := ⟨29, 5, 0, 0, 7⟩
def awI1 : Pn.Ins := ⟨64, 0, 0, 0, 0⟩
theorem awT_split : Lib.splitB ⟨#[10]⟩ 0 (Lib.countB awT ⟨#[10]⟩) awT = [awL0, awL1] := by kernel_rfl
theorem aw_cut0 : Pn.cutM (Lib.cut awL0.data.toList [35]).1 0 [] = some [(1, [97, 100, 100, 105]), (1, [120, 53]), (3, [44]), (1, [120, 48]), (3, [44]), (2, [55])] := by kernel_rfl
theorem aw_cut1 : Pn.cutM (Lib.cut awL1.data.toList [35]).1 0 [] = some [(1, [101, 98, 114, 101, 97, 107])] := by kernel_rfl
theorem aw_rin0 : Pn.rin 28 [(1, [120, 53]), (3, [44]), (1, [120, 48]), (3, [44]), (2, [55])] = (Pn.partCells awI0 [], 0) := by kernel_rfl
theorem aw_rin1 : Pn.rin 63 [] = (Pn.partCells awI1 [], 0) := by kernel_rfl
theorem aw_line0 (W : World) (hE : Env W) : Calls Tryz.prog 193 #[.string awL0] W fun e w' => ∃ g, e = .returned (.tuple #[.agg #[.string ⟨#[]⟩, .slice (some ⟨g, 0, none⟩) 1 1], .int .i64 0]) ∧ W.heap.size ≤ g ∧ CellsAt g (Pn.partCells awI0 []) w' ∧ Below W.heap.size W w' :=
  readLine_ins awL0 W (by decide) hE 1 [97, 100, 100, 105] _ aw_cut0 (by intro p hp; cases hp; decide) (by decide) 28 awI0 [] (by decide) (by kernel_rfl) aw_rin0 (by decide) (by decide) (by decide)
theorem aw_line1 (W : World) (hE : Env W) : Calls Tryz.prog 193 #[.string awL1] W fun e w' => ∃ g, e = .returned (.tuple #[.agg #[.string ⟨#[]⟩, .slice (some ⟨g, 0, none⟩) 1 1], .int .i64 0]) ∧ W.heap.size ≤ g ∧ CellsAt g (Pn.partCells awI1 []) w' ∧ Below W.heap.size W w' :=
  readLine_ins awL1 W (by decide) hE 1 [101, 98, 114, 101, 97, 107] _ aw_cut1 (by intro p hp; cases hp) (by decide) 63 awI1 [] (by decide) (by kernel_rfl) aw_rin1 (by decide) (by decide) (by decide)
theorem aw_asm (w : World) (hE : Env w) :
    Calls Tryz.prog 42 #[.string awT, .bool false] w fun e w' => e = .returned (.tuple #[.string ⟨#[147, 2, 112, 0, 115, 0, 16, 0]⟩, .agg #[.int .i64 0, .int .i64 0]]) ∧ Below w.heap.size w w' := by
  have h := assemble_ins awT [awI0, awI1] w (by decide) (by decide) (by decide) (by decide) (fun W hB => readProgram_ins awT [awL0, awL1] [awI0, awI1] W (hE.below hB hE.1) (by decide) awT_split rfl (by
    intro j t i ht hi W2 hE2
    match j, ht, hi with
    | 0, ht, hi => cases ht; cases hi; exact aw_line0 W2 hE2
    | 1, ht, hi => cases ht; cases hi; exact aw_line1 W2 hE2
    | j + 2, ht, hi => cases ht))
  have e : pby (apl [awI0, awI1]) [awI0, awI1].length = [147, 2, 112, 0, 115, 0, 16, 0] := by kernel_rfl
  rw [e] at h
  exact h
end Go.Proofs.YtbmcofdodfcnnaaGreatDoor
