import Derived.Test.YtbmcofdodfcnnaaGreatDoorGAC
import Derived.Test.YtbmcofdodfcnnaaGreatDoorGFE
import Derived.Deep.RegionLaw
import Derived.Deep.AppendLies
import Derived.Test.YtbmcofdodfcnnaaGreatDoorFI
import Derived.Deep.RegionWith
namespace Go.Proofs.YtbmcofdodfcnnaaGreatDoor
open Go.RowKit
def psz : List Pt → Nat → Int
  | _, 0 => 0
  | l, k + 1 => psz l k + (match l[k]? with | some x => x.2.2.2 | none => 0)
/-- the places of the parts, and of the end -/
def plcs (l : List Pt) (j : Nat) : List Int := (List.range (j + 1)).map (psz l)
theorem plcs_len (l : List Pt) (j : Nat) : (plcs l j).length = j + 1 := by simp [plcs]
theorem plcs_succ (l : List Pt) (j : Nat) : plcs l (j + 1) = plcs l j ++ [psz l (j + 1)] := by simp [plcs, List.range_succ]
theorem plcs_at (l : List Pt) (j k : Nat) (h : k ≤ j) : (plcs l j).getD k 0 = psz l k := by
  simp [plcs, List.getD, List.getElem?_range (show k < j + 1 by omega)]
set_option maxRecDepth 20000 in
set_option maxHeartbeats 2000000 in
theorem places_is (b g cap : Nat) (mv : Value) (l : List Pt) (w : World) (h : PgAt b g cap mv l w) (hn : l.length ≤ 1000000) (hs : ∀ k, k ≤ l.length → 0 ≤ psz l k ∧ psz l k ≤ 100000000) :
    Calls Tryz.prog 143 #[.pointer (some ⟨b, 0, none⟩)] w fun e w' => ∃ v, e = .returned v ∧ w'.ownsRow w.heap.size 3 1 v (plcs l l.length).length (ints (plcs l l.length)) ∧ Below w.heap.size w w' := by
  obtain ⟨i0, hi, hz0, hz1, hz2⟩ := info_parts Tryz.infoInt
  have HP := hid h
  have HS := hid hs
  have c0 := h.c0
  have bl := h.bl
  clear h hs
  go_enter Tryz.func143, Tryz.ntmps143
  go_wp2_with fail
  clear c0
  go_loopw [3, 12] (fun v i wr => ∃ j : Nat, j ≤ l.length ∧ i = .int .i64 j ∧ wr.ownsRow w.heap.size 3 1 v (plcs l j).length (ints (plcs l j)) ∧ Below w.heap.size w wr) (fun _ i _ => l.length - (intOf i).toNat)
  case atStart =>
    refine ⟨0, Nat.zero_le _, rfl, ?_, (Below.refl _ _).alloc (Nat.le_refl _) _⟩
    exact World.ownsRow_lit w #[.int .i64 0] 1 (Nat.le_refl _) (by unfold maxLen; omega) (by rfl)
  case round =>
    obtain ⟨j, hj, rfl, hown, hB⟩ := hrel
    by_cases hlt : j < l.length
    · obtain ⟨⟨i, tg, line, size⟩, hx⟩ : ∃ x, l[j]? = some x := ⟨_, List.getElem?_eq_getElem hlt⟩
      have hP := HP.out.next hB
      have gl := hP.gl
      have p0 := hP.at' j _ hx 0 _ rfl
      have p1 := hP.at' j _ hx 1 _ rfl
      have p2 := hP.at' j _ hx 2 _ rfl
      have p3 := hP.at' j _ hx 3 _ rfl
      have p4 := hP.at' j _ hx 4 _ rfl
      have p5 := hP.at' j _ hx 5 _ rfl
      have p6 := hP.at' j _ hx 6 _ rfl
      have p7 := hP.at' j _ hx 7 _ rfl
      have p8 := hP.at' j _ hx 8 _ rfl
      simp only [Nat.add_zero] at p0 p1 p2 p3 p4 p5 p6 p7 p8
      have hji : (j : Int) < l.length := by omega
      obtain ⟨ao, cp, rfl, hIA⟩ := own_ints hown
      rw [plcs_len] at *
      obtain ⟨q, rfl, hq1, hq2, hqc⟩ := hIA.at' j (by rw [plcs_len]; omega)
      rw [plcs_at l j j (Nat.le_refl _)] at hqc
      have hs0 := HS.out j (by omega)
      have hs1 := HS.out (j + 1) (by omega)
      have HSZ : Hid (psz l (j + 1) = psz l j + size) := hid (by simp [psz, hx])
      have HB := hid hB
      have HO := hid hown
      clear hP hB hx hown hIA
      have hjj : (j : Int) < ((j + 1 : Nat) : Int) := by omega
      have hj0 : (0 : Int) ≤ (j : Int) := by omega
      have hjk : (j : Int) < (j : Int) + 1 := by omega
      have wa : IntKind.i64.wrap (psz l j + size) = psz l j + size := IntWalk.i64_in _ (by have := HSZ.out; omega)
      go_wp2_with fail
      have HOW := hid (HO.out.alloc (.cells #[.string ⟨#[]⟩, .int .i64 i.op, .int .i64 i.rd, .int .i64 i.rs1, .int .i64 i.rs2, .int .i64 i.imm, .string ⟨tg.toArray⟩, .int .i64 line, .int .i64 size] 202))
      have HBW := hid (HB.out.alloc HB.out.size (.cells #[.string ⟨#[]⟩, .int .i64 i.op, .int .i64 i.rd, .int .i64 i.rs1, .int .i64 i.rs2, .int .i64 i.imm, .string ⟨tg.toArray⟩, .int .i64 line, .int .i64 size] 202))
      have k1 : (wr.alloc (.cells #[.string ⟨#[]⟩, .int .i64 i.op, .int .i64 i.rd, .int .i64 i.rs1, .int .i64 i.rs2, .int .i64 i.imm, .string ⟨tg.toArray⟩, .int .i64 line, .int .i64 size] 202)).cell? ⟨q, j, none⟩ = some (.int .i64 (psz l j)) := by go_simp
      have k2 : (wr.alloc (.cells #[.string ⟨#[]⟩, .int .i64 i.op, .int .i64 i.rd, .int .i64 i.rs1, .int .i64 i.rs2, .int .i64 i.imm, .string ⟨tg.toArray⟩, .int .i64 line, .int .i64 size] 202)).cell? ⟨wr.heap.size, 8, none⟩ = some (.int .i64 size) := by go_simp
      have hwz := HBW.out.size
      clear p0 p1 p2 p3 p4 p5 p6 p7 p8 hqc HO HB
      generalize wr.alloc (.cells #[.string ⟨#[]⟩, .int .i64 i.op, .int .i64 i.rd, .int .i64 i.rs1, .int .i64 i.rs2, .int .i64 i.imm, .string ⟨tg.toArray⟩, .int .i64 line, .int .i64 size] 202) = W at *
      go_region_law
        ((refine step_append_lies _ (by rfl) _ _ _ (by rfl) w.heap.size 3 i0 _ 1 8 Tryz.underlying49 hi hz0 hz1 hz2 rfl (by omega) (.slice (some ⟨q, 0, none⟩) (j + 1) cp) (j + 1) (ints (plcs l j)) (by rfl) ((HOW.out.alloc _).drew)
            ⟨W.heap.size, 0, none⟩ 1 1 [.int .i64 (psz l j + size)] (by rfl) (by rfl) (World.news_of_block (cs := #[.int .i64 (psz l j + size)]) (t := 3) (fr := (0, 0)) (heap_alloc_new W _)) (by simp [Value.oneCell'])
            (by omega) (by unfold maxLen; omega) (by omega) (by simp; omega) (W.heap.size + 1) (by simp) ?_; intro gg cap9 w9 hown9 hgrow hat hlt9))
      all_goals
        have hB9 : Below w.heap.size w w9 := ((HBW.out.alloc hwz _).drew).grown hgrow (by simp; omega) (fun k hk => by have := (HOW.out.lt k hk).1; omega)
        have hO9 : w9.ownsRow w.heap.size 3 1 (.slice (some ⟨gg, 0, none⟩) (j + 1 + 1) cap9) (plcs l (j + 1)).length (ints (plcs l (j + 1))) := by
          rw [plcs_len, plcs_succ, HSZ.out]
          simpa [ints] using hown9
        clear hgrow hown9 hat
        go_wp2_with fail
        go_roundw
        case rel => exact ⟨j + 1, by omega, by go_num, hO9, hB9⟩
        case measure => simp [intOf]; omega
    · have hjn : j = l.length := by omega
      subst hjn
      go_wp2_with fail
      go_ret
      exact ⟨_, rfl, hown, hB⟩
end Go.Proofs.YtbmcofdodfcnnaaGreatDoor

namespace Go.Proofs.YtbmcofdodfcnnaaGreatDoor
open Go.RowKit
/-- the first j parts have four bytes -/
def sz4 (l : List Pt) (j : Nat) : List Pt := l.mapIdx fun k x => if k < j then (x.1, x.2.1, x.2.2.1, 4) else x
theorem sz4_len (l : List Pt) (j : Nat) : (sz4 l j).length = l.length := by simp [sz4]
theorem sz4_zero (l : List Pt) : sz4 l 0 = l := by
  apply List.ext_getElem?
  intro k
  cases h : l[k]? with
  | none => simp [sz4, h]
  | some x => simp [sz4, h]
theorem sz4_at (l : List Pt) (j k : Nat) (x : Pt) (h : l[k]? = some x) : (sz4 l j)[k]? = some (if k < j then (x.1, x.2.1, x.2.2.1, 4) else x) := by
  simp [sz4, h]
/-- one size is stored -/
theorem PgAt.size {b g cap : Nat} {mv : Value} {l : List Pt} {w : World} (j : Nat) (x : Pt) (h : PgAt b g cap mv (sz4 l j) w) (hx : l[j]? = some x) : PgAt b g cap mv (sz4 l (j + 1)) (w.setCell ⟨g, j * 9 + 8, none⟩ (.int .i64 4)) := by
  have hbk : (w.setCell ⟨g, j * 9 + 8, none⟩ (.int .i64 4)).heap[b]? = w.heap[b]? := Below.heap_setCell _ _ _ _ (fun e => h.ne e)
  refine ⟨?_, ?_, ?_, ?_, h.ne, fun q => (World.frozen?_of_block (a := ⟨b, q, none⟩) hbk).trans (h.fb q), fun q => by rw [World.frozen?_setCell]; exact h.fg q, fun k y hk i u hu => ?_⟩
  · have := (World.cell?_of_block (a := ⟨b, 0, none⟩) hbk).trans h.c0
    rw [sz4_len] at this ⊢
    exact this
  · exact (World.cell?_of_block (a := ⟨b, 1, none⟩) hbk).trans h.c1
  · simpa [World.setCell] using h.bl
  · simpa [World.setCell] using h.gl
  · have hkl : k < l.length := by
      rcases Nat.lt_or_ge k (sz4 l (j + 1)).length with h | h
      · rwa [sz4_len] at h
      · rw [List.getElem?_eq_none h] at hk; cases hk
    obtain ⟨z, hz⟩ : ∃ z, l[k]? = some z := ⟨_, List.getElem?_eq_getElem hkl⟩
    rw [sz4_at l (j + 1) k z hz] at hk
    have hi9 : i < 9 := by
      rcases Nat.lt_or_ge i 9 with h | h
      · exact h
      · rw [List.getElem?_eq_none (by simpa [ptC, apart, Pn.partCells] using h)] at hu; cases hu
    by_cases hkj : k = j
    · subst hkj
      have hzx : z = x := Option.some.inj (hz.symm.trans hx)
      subst hzx
      clear hx
      rw [if_pos (by omega)] at hk
      cases hk
      by_cases h8 : i = 8
      · subst h8
        have e : u = .int .i64 4 := by
          have : (ptC (z.1, z.2.1, z.2.2.1, 4))[8]? = some (.int .i64 4) := rfl
          rw [this] at hu; exact (Option.some.inj hu).symm
        subst e
        exact World.cell?_setCell_same _ _ _ (h.at' k _ (by rw [sz4_at l k k z hz, if_neg (by omega)]) 8 (.int .i64 z.2.2.2) rfl)
      · rw [World.cell?_setCell_other _ _ _ _ (by intro e; injection e with _ e2; omega)]
        refine h.at' k _ (by rw [sz4_at l k k z hz, if_neg (by omega)]) i u ?_
        rw [← hu]
        match i, hi9, h8 with
        | 0, _, _ => rfl
        | 1, _, _ => rfl
        | 2, _, _ => rfl
        | 3, _, _ => rfl
        | 4, _, _ => rfl
        | 5, _, _ => rfl
        | 6, _, _ => rfl
        | 7, _, _ => rfl
        | i + 8, h9, h8 => exact absurd (show i = 0 by omega) (fun e => h8 (by omega))
    · rw [World.cell?_setCell_other _ _ _ _ (by intro e; injection e with _ e2; omega)]
      refine h.at' k y ?_ i u hu
      rw [sz4_at l j k z hz, ← hk]
      congr 1
      by_cases hlt : k < j
      · rw [if_pos hlt, if_pos (by omega)]
      · rw [if_neg hlt, if_neg (by omega)]
theorem PgAt.len {b g cap : Nat} {mv : Value} {l : List Pt} {j : Nat} {w : World} (h : PgAt b g cap mv (sz4 l j) w) : w.cell? ⟨b, 0, none⟩ = some (.slice (some ⟨g, 0, none⟩) l.length cap) := by
  have := h.c0
  rwa [sz4_len] at this
theorem sz4_tg {l : List Pt} {j : Nat} (h : ∀ x ∈ l, x.2.1 = []) : ∀ x ∈ sz4 l j, x.2.1 = [] := by
  intro x hx
  obtain ⟨k, hk⟩ := List.getElem?_of_mem hx
  have hkl : k < l.length := by
    rcases Nat.lt_or_ge k (sz4 l j).length with h | h
    · rwa [sz4_len] at h
    · rw [List.getElem?_eq_none h] at hk; cases hk
  rw [sz4_at l j k _ (List.getElem?_eq_getElem hkl)] at hk
  have hz := h _ (List.getElem_mem hkl)
  cases hk
  split
  · exact hz
  · exact hz
theorem own_base {w : World} {base base' : Nat} {e : TypeId} {size n : Nat} {v : Value} {xs : List Value} (h : w.ownsRow base e size v n xs) (hb : base' ≤ base) : w.ownsRow base' e size v n xs := by
  obtain ⟨h1, h2 | ⟨g, cap, cur, hv, hg, hc, h3⟩⟩ := h
  · exact ⟨h1, .inl h2⟩
  · exact ⟨h1, .inr ⟨g, cap, cur, hv, Nat.le_trans hb hg, hc, h3⟩⟩
theorem own_next {w w' : World} {base : Nat} {e : TypeId} {size n : Nat} {v : Value} {xs : List Value} (h : w.ownsRow base e size v n xs) (hB : Below w.heap.size w w') : w'.ownsRow base e size v n xs :=
  ownsRow_of_block h (fun g hg => hB.block g (h.lt g hg).2)
theorem kept_below {g : Nat} {w0 w w' : World} (h : Kept g w0 w) (hB : Below w.heap.size w w') : Kept g w0 w' := h.trans (Kept.of_below hB g)
set_option maxRecDepth 20000 in
set_option maxHeartbeats 4000000 in
theorem layOut_long (b g cap : Nat) (mv : Value) (l : List Pt) (w : World) (h : PgAt b g cap mv l w) (ht : ∀ x ∈ l, x.2.1 = []) (hn : l.length ≤ 1000000) (hs : ∀ k, k ≤ l.length → 0 ≤ psz (sz4 l l.length) k ∧ psz (sz4 l l.length) k ≤ 100000000) :
    Calls Tryz.prog 80 #[.pointer (some ⟨b, 0, none⟩), .bool false] w fun e w' => ∃ v, e = .returned v ∧ w'.ownsRow w.heap.size 3 1 v (plcs (sz4 l l.length) l.length).length (ints (plcs (sz4 l l.length) l.length)) ∧ PgAt b g cap mv (sz4 l l.length) w' ∧ Kept g w w' := by
  have HP := hid h
  have c0 := h.c0
  have gl0 := h.gl
  go_enter Tryz.func80, Tryz.ntmps80
  go_wp2_with fail
  clear c0
  go_loopw [12] (fun i wr => ∃ j : Nat, j ≤ l.length ∧ i = .int .i64 j ∧ PgAt b g cap mv (sz4 l j) wr ∧ Kept g w wr) (fun i _ => l.length - (intOf i).toNat)
  case atStart => exact ⟨0, Nat.zero_le _, rfl, by rw [sz4_zero]; exact HP.out, Kept.refl _ _⟩
  case round =>
    obtain ⟨j, hj, rfl, hP, hK⟩ := hrel
    by_cases hlt : j < l.length
    · obtain ⟨⟨i, tg, line, size⟩, hx⟩ : ∃ x, l[j]? = some x := ⟨_, List.getElem?_eq_getElem hlt⟩
      have hxj := (sz4_at l j j _ hx).trans (by rw [if_neg (Nat.lt_irrefl j)])
      have gl := hP.gl
      have bl := hP.bl
      have cb := hP.len
      have p0 := hP.at' j _ hxj 0 _ rfl
      have p1 := hP.at' j _ hxj 1 _ rfl
      have p2 := hP.at' j _ hxj 2 _ rfl
      have p3 := hP.at' j _ hxj 3 _ rfl
      have p4 := hP.at' j _ hxj 4 _ rfl
      have p5 := hP.at' j _ hxj 5 _ rfl
      have p6 := hP.at' j _ hxj 6 _ rfl
      have p7 := hP.at' j _ hxj 7 _ rfl
      have p8 := hP.at' j _ hxj 8 _ rfl
      simp only [Nat.add_zero] at p0 p1 p2 p3 p4 p5 p6 p7 p8
      have hfg := hP.fg
      have hji : (j : Int) < l.length := by omega
      have hfs := fun w' => firstSize_long i tg line size w'
      unfold apart Pn.partCells at hfs
      simp only [List.cons_append, List.nil_append] at hfs
      have HFS := hid hfs
      have HPj := hid hP
      have HKj := hid hK
      have HX := hid hx
      clear hP hK hx hxj hfs
      go_wp2_with fail
      go_region_with (go_at_call 142; refine (HFS.out _).mono ?_; rintro e w' ⟨rfl, hB'⟩; have hcb := (hB'.cell (p := ⟨b, 0, none⟩) bl).trans (by go_simp : _ = some (.slice (some ⟨g, 0, none⟩) l.length cap)); have hc8 := (hB'.cell (p := ⟨g, j * 9 + 8, none⟩) gl).trans (by go_simp : _ = some (.int .i64 size)); have hf8 := (hB'.frozen (p := ⟨g, j * 9 + 8, none⟩) gl).trans (by go_simp : _ = false))
      all_goals
        have HP1 := hid (PgAt.size j _ ((HPj.out.next ((Below.refl _ _).drew)).next hB') HX.out)
        have HK1 := hid ((kept_below (kept_below HKj.out ((Below.refl _ _).drew)) hB').near (j * 9 + 8) (.int .i64 4))
        clear hB' hcb hc8 hf8
        go_wp2_with fail
        go_roundw
        case rel => exact ⟨j + 1, by omega, by go_num, HP1.out, HK1.out⟩
        case measure => simp [intOf]; omega
    · have hjn : j = l.length := by omega
      subst hjn
      have HPj := hid hP
      have HKj := hid hK
      clear hP hK
      have HPL := hid (places_is b g cap mv (sz4 l l.length) wr HPj.out (by rw [sz4_len]; exact hn) (by rw [sz4_len]; exact hs))
      rw [sz4_len] at HPL
      go_wp2_with fail
      refine HPL.out.mono ?_
      rintro e w2 ⟨v, rfl, hown, hB2⟩
      have HO := hid hown
      have HP2 := hid (HPj.out.next hB2)
      have HK2 := hid (kept_below HKj.out hB2)
      clear hown hB2 HPL
      have HGR := hid (grow_plain b g cap mv (sz4 l l.length) v w2 HP2.out (sz4_tg ht) (by rw [sz4_len]; exact hn))
      go_wp2_with fail
      go_loopw [6] (fun a wx => a = v ∧ wx = w2) (fun _ _ => 0)
      case atStart => exact ⟨rfl, rfl⟩
      case round =>
        obtain ⟨rfl, rfl⟩ := hrel
        go_wp2_with fail
        refine HGR.out.mono ?_
        rintro e w3 ⟨rfl, hB3⟩
        go_wp2_with fail
        go_ret
        exact ⟨_, rfl, own_next (own_base HO.out HKj.out.size) hB3, HP2.out.next hB3, kept_below HK2.out hB3⟩
end Go.Proofs.YtbmcofdodfcnnaaGreatDoor
