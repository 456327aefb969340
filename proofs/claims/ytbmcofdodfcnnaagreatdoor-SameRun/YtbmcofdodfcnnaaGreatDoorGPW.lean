import Derived.Test.YtbmcofdodfcnnaaGreatDoorGPS
namespace Pn
open Go
theorem itoa_2048 : Lib.itoa 2048 = [50, 48, 52, 56] := by
  have e : Lib.itoa 2048 = Lib.decDigits 2048 := itoa_nn 2048
  rw [e, Lib.decDigits, dif_neg (by omega), Lib.decDigits, dif_neg (by omega), show 2048 / 10 / 10 = 20 from rfl, Lib.decDigits_two (by omega) (by omega)]
  decide
theorem first_li : firstT = staT ⟨2, ⟨0, 31, 0, 0, 2048⟩, 0⟩ := by
  rw [liS_text, itoa_2048, show regL 31 = [120, 51, 49] from by unfold regL; rw [itoa_31]]
  rfl
theorem rline_first : rline firstT = ([], loadP 31 2048, 0) := by
  obtain ⟨L, hL, hr⟩ := stm_li (a := 31) (n := 2048) ⟨by omega, by omega⟩ (by omega) (by omega)
  rw [← first_li] at hL
  have hq : ∃ p q M, L = p :: q :: M ∧ q.2 ≠ [58] := by
    rw [first_li, liS_text] at hL
    have e : [108, 105, 32] ++ regL 31 ++ [44, 32] ++ Lib.itoa 2048 = [108, 105] ++ (32 :: (regL 31 ++ (44 :: 32 :: (Lib.itoa 2048 ++ [])))) := by simp
    rw [e, cut_name _ _ (by decide), cutM_next (k' := 0) (by decide) (end1 _) (by decide), cut_reg (by omega) (.inl rfl) (endP_zero _), cutM_next (k' := 3) (by decide) (end1 _) (by decide)] at hL
    simp only [Option.map_map, Option.map_eq_some_iff] at hL
    obtain ⟨M, hM, rfl⟩ := hL
    exact ⟨_, _, _, rfl, by unfold regL; simp⟩
  obtain ⟨p, q, M, rfl, hq⟩ := hq
  have hn : ∀ c ∈ firstT, c ≠ 35 := by decide
  unfold rline
  rw [no_cut hn, hL]
  simp only [rlineP, if_neg hq, hr]
def brkI : Ins := ⟨64, 0, 0, 0, 0⟩
theorem last_shw : [101, 98, 114, 101, 97, 107] = (shw brkI).1 := by decide
theorem rline_last {n : Nat} (h : n < 100) : rline (lastT n) = (nmL n, [⟨[], brkI, []⟩], 0) := by
  have e : lastT n = nmL n ++ [58, 32] ++ (shw brkI).1 := by rw [← last_shw]; simp [lastT]
  rw [e]
  refine rline_label h ?_ (stm_ins (by decide))
  rw [← last_shw]
  exact (fine_lit (m := 6) (by decide) (by decide)).1
def linesAll (l : List Sta) : List (List UInt8) := firstT :: linesP 0 l ++ [lastT l.length]
def nameAt (j : Nat) : List UInt8 := if j = 0 then [] else nmL (j - 1)
def partsAt (l : List Sta) (j : Nat) : List Prt := if j = 0 then loadP 31 2048 else match l[j - 1]? with | some x => partsOf x | none => [⟨[], brkI, []⟩]
theorem linesAll_len (l : List Sta) : (linesAll l).length = l.length + 2 := by simp [linesAll, linesP_len]
theorem line_at {l : List Sta} (h : ∀ x ∈ l, StaOk l.length x) (hl : l.length ≤ 24) {j : Nat} (hj : j < l.length + 2) : rline ((linesAll l).getD j []) = (nameAt j, partsAt l j, 0) := by
  cases j with
  | zero => exact rline_first
  | succ j =>
    have e : (linesAll l).getD (j + 1) [] = (linesP 0 l ++ [lastT l.length]).getD j [] := by simp [linesAll, List.getD]
    rw [e]
    simp only [nameAt, partsAt, Nat.add_sub_cancel, Nat.succ_ne_zero, if_false]
    rcases Nat.lt_or_ge j l.length with hlt | hge
    · obtain ⟨x, hx⟩ : ∃ x, l[j]? = some x := ⟨_, List.getElem?_eq_getElem hlt⟩
      have hx' := h x (List.mem_of_getElem? hx)
      have e2 : (linesP 0 l ++ [lastT l.length]).getD j [] = lineT j x := by
        rw [List.getD, List.getElem?_append_left (by rw [linesP_len]; exact hlt), linesP_at, hx]
        simp
      rw [e2, hx]
      exact rline_label (by omega) (sta_fine hx' (by omega)).1 (sta_stm hx' (by omega))
    · have ej : j = l.length := by omega
      subst ej
      have e2 : (linesP 0 l ++ [lastT l.length]).getD l.length [] = lastT l.length := by
        rw [List.getD, List.getElem?_append_right (by rw [linesP_len]; exact Nat.le_refl _), linesP_len]
        simp
      rw [e2, List.getElem?_eq_none (Nat.le_refl _)]
      exact rline_last (by omega)
def qUp (l : List Sta) : Nat → List Qt
  | 0 => []
  | j + 1 => qUp l j ++ (partsAt l j).map (fun p => ⟨p, (j : Int) + 1, 0⟩)
def nUp (l : List Sta) : Nat → List (List UInt8 × Nat)
  | 0 => []
  | j + 1 => if j = 0 then [] else nUp l j ++ [(nmL (j - 1), (qUp l j).length)]
theorem nm_inj {a b : Nat} (ha : a < 100) (hb : b < 100) (h : nmL a = nmL b) : a = b := by
  injection h with _ h
  have h1 := atoi_itoa (a : Int) (by omega) (by omega)
  have h2 := atoi_itoa (b : Int) (by omega) (by omega)
  rw [h, h2] at h1
  injection h1 with h1
  omega
theorem nUp_look (l : List Sta) {t : Nat} (ht : t < 100) : ∀ j, j < 100 → (nUp l j).lookup (nmL t) = if t + 1 < j then some (qUp l (t + 1)).length else none
  | 0, _ => by simp [nUp]
  | j + 1, hj => by
    have ih := nUp_look l ht j (by omega)
    rw [nUp]
    by_cases h0 : j = 0
    · subst h0; simp
    · rw [if_neg h0, List.lookup_append, ih]
      by_cases h1 : t + 1 < j
      · rw [if_pos h1, if_pos (by omega)]; rfl
      · rw [if_neg h1]
        by_cases h2 : t + 1 = j
        · subst h2
          rw [if_pos (by omega)]
          simp
        · rw [if_neg (by omega)]
          have : ¬ nmL t = nmL (j - 1) := fun e => by have := nm_inj ht (by omega) e; omega
          have hb : (nmL t == nmL (j - 1)) = false := by simpa using this
          simp [List.lookup, hb]
theorem nm_ne (k : Nat) : nmL k ≠ [] := by unfold nmL; simp
theorem add_line {l : List Sta} (h : ∀ x ∈ l, StaOk l.length x) (hl : l.length ≤ 24) {j : Nat} (hj : j < l.length + 2) : addP ((linesAll l).getD j []) ((j : Int) + 1) (qUp l j) (nUp l j) = (0, qUp l (j + 1), nUp l (j + 1)) := by
  have hr := line_at h hl hj
  unfold addP
  rw [hr]
  simp only [if_true]
  by_cases h0 : j = 0
  · subst h0
    simp [nameAt, qUp, nUp]
  · have hn : nameAt j = nmL (j - 1) := by unfold nameAt; rw [if_neg h0]
    have hk : (nUp l j).lookup (nmL (j - 1)) = none := by rw [nUp_look l (by omega) j (by omega), if_neg (by omega)]
    rw [hn, if_neg (nm_ne _), hk]
    simp [qUp, nUp, h0]
theorem rupto_prog {l : List Sta} (h : ∀ x ∈ l, StaOk l.length x) (hl : l.length ≤ 24) : ∀ j, j ≤ l.length + 2 → rupto (linesAll l) j = (qUp l j, nUp l j)
  | 0, _ => rfl
  | j + 1, hj => by
    rw [rupto, rupto_prog h hl j (by omega), add_line h hl (by omega)]
theorem lerr_prog {l : List Sta} (h : ∀ x ∈ l, StaOk l.length x) (hl : l.length ≤ 24) {j : Nat} (hj : j < l.length + 2) : lerr (linesAll l) j = 0 := by
  unfold lerr
  rw [rupto_prog h hl j (by omega), add_line h hl hj]
theorem parts_tg {l : List Sta} (h : ∀ x ∈ l, StaOk l.length x) {j : Nat} {p : Prt} (hp : p ∈ partsAt l j) : p.tg = [] ∨ ∃ t, t ≤ l.length ∧ p.tg = nmL t := by
  have hload : ∀ r n, p ∈ loadP r n → p.tg = [] := fun r n hm => by
    unfold loadP at hm
    split at hm
    · simp only [List.mem_singleton] at hm; rw [hm]
    · rcases List.mem_cons.1 hm with rfl | hm
      · rfl
      · split at hm
        · cases hm
        · simp only [List.mem_singleton] at hm; rw [hm]
  unfold partsAt at hp
  split at hp
  · exact .inl (hload _ _ hp)
  · split at hp
    · rename_i x hx
      have hxo := h x (List.mem_of_getElem? hx)
      unfold partsOf at hp
      rcases hxo with ⟨h0, _, _, _, h5⟩ | ⟨h0, h1⟩ | ⟨h0, _⟩ | ⟨h0, _⟩
      · simp only [h0, if_true, List.mem_singleton] at hp
        rw [hp]; exact .inr ⟨_, h5, rfl⟩
      · simp only [h0, Nat.one_ne_zero, if_false, if_true, List.mem_singleton] at hp
        rw [hp]; exact .inr ⟨_, h1, rfl⟩
      · simp [h0] at hp
        exact .inl (hload _ _ hp)
      · simp [h0] at hp
        rw [hp]; exact .inl rfl
    · simp only [List.mem_singleton] at hp
      rw [hp]; exact .inl rfl
theorem qUp_mem {l : List Sta} : ∀ (j : Nat) (q : Qt), q ∈ qUp l j → ∃ k, k < j ∧ q.p ∈ partsAt l k
  | 0, q, h => by cases h
  | j + 1, q, h => by
    rcases List.mem_append.1 h with h | h
    · obtain ⟨k, hk, hq⟩ := qUp_mem j q h
      exact ⟨k, by omega, hq⟩
    · obtain ⟨p, hp, rfl⟩ := List.mem_map.1 h
      exact ⟨j, by omega, hp⟩
theorem rdP_prog {l : List Sta} (h : ∀ x ∈ l, StaOk l.length x) (hl : l.length ≤ 24) : rdP (linesAll l) = (0, 0, qUp l (l.length + 2), nUp l (l.length + 2)) := by
  have hu := rupto_prog h hl (l.length + 2) (Nat.le_refl _)
  unfold rdP
  rw [linesAll_len, find_none _ _ (fun j hj => by rw [lerr_prog h hl hj]; rfl), hu]
  simp only
  rw [find_none _ _ (fun k hk => ?_)]
  obtain ⟨q, hq⟩ : ∃ q, (qUp l (l.length + 2))[k]? = some q := ⟨_, List.getElem?_eq_getElem hk⟩
  obtain ⟨j, _, hp⟩ := qUp_mem _ q (List.mem_of_getElem? hq)
  simp only [noTg, hq]
  rcases parts_tg h hp with e | ⟨t, ht, e⟩
  · rw [e]; rfl
  · rw [e, nUp_look l (by omega) _ (by omega), if_pos (by omega)]
    simp
end Pn
namespace Pn
open Go
theorem right29 (r n : Int) (hr : 0 ≤ r ∧ r ≤ 31) (h0 : -2048 ≤ n) (h1 : n ≤ 2047) : right ⟨29, r, 0, 0, n⟩ = true := by
  have e : right ⟨29, r, 0, 0, n⟩ = _ := right_succ 28 r 0 0 n (by omega)
  rw [e, show (row 28).kind = 73 from rfl]
  simp [has, register, fitsImm, between]; omega
theorem right60 (r n : Int) (hr : 0 ≤ r ∧ r ≤ 31) (h0 : -524288 ≤ n) (h1 : n ≤ 524287) : right ⟨60, r, 0, 0, n⟩ = true := by
  have e : right ⟨60, r, 0, 0, n⟩ = _ := right_succ 59 r 0 0 n (by omega)
  rw [e, show (row 59).kind = 85 from rfl]
  simp [has, register, fitsImm, between]; omega
theorem right38 (r n : Int) (hr : 0 ≤ r ∧ r ≤ 31) (h0 : -2048 ≤ n) (h1 : n ≤ 2047) : right ⟨38, r, r, 0, n⟩ = true := by
  have e : right ⟨38, r, r, 0, n⟩ = _ := right_succ 37 r r 0 n (by omega)
  rw [e, show (row 37).kind = 73 from rfl]
  simp [has, register, fitsImm, between]; omega
theorem lowI_bd (n : Int) : -2048 ≤ lowI n ∧ lowI n ≤ 2047 := by unfold lowI; omega
theorem highI_bd (n : Int) (h0 : -2147483648 ≤ n) (h1 : n < 2147483648) : -524288 ≤ highI n ∧ highI n ≤ 524287 := by
  unfold highI lowI
  split <;> omega
def noBr (op : Int) : Prop := ¬ (54 ≤ op ∧ op ≤ 59) ∧ ¬ op = 62
theorem load_ok {r n : Int} (hr : 0 ≤ r ∧ r ≤ 31) (h0 : -2147483648 ≤ n) (h1 : n < 2147483648) {p : Prt} (hm : p ∈ loadP r n) : p.data = [] ∧ p.tg = [] ∧ right p.ins = true ∧ noBr p.ins.op := by
  have hl := lowI_bd n
  have hh := highI_bd n h0 h1
  unfold loadP at hm
  split at hm
  · rename_i e
    simp only [List.mem_singleton] at hm
    rw [hm]
    exact ⟨rfl, rfl, right29 _ _ hr (by omega) (by omega), by unfold noBr; simp⟩
  · rcases List.mem_cons.1 hm with rfl | hm
    · exact ⟨rfl, rfl, right60 _ _ hr hh.1 hh.2, by unfold noBr; simp⟩
    · split at hm
      · cases hm
      · simp only [List.mem_singleton] at hm
        rw [hm]
        exact ⟨rfl, rfl, right38 _ _ hr hl.1 hl.2, by unfold noBr; simp⟩
theorem tmod2 {d : Int} (h : d % 2 = 0) : d.tmod 2 = 0 := by
  obtain ⟨e, rfl⟩ : ∃ e, d = 2 * e := ⟨d / 2, by omega⟩
  exact Int.mul_tmod_right 2 e
theorem right_brd {ro : Nat} {a c d : Int} (h : ro < 6) (ha : 0 ≤ a ∧ a ≤ 31) (hc : 0 ≤ c ∧ c ≤ 31) (h0 : -4096 ≤ d) (h1 : d ≤ 4094) (h2 : d % 2 = 0) : right ⟨(ro : Int) + 54, 0, a, c, d⟩ = true := by
  have e : (ro : Int) + 54 = ((ro + 53 : Nat) : Int) + 1 := by omega
  rw [e, right_succ _ _ _ _ _ (by omega), br_kind ro h]
  simp [has, register, fitsImm, between, tmod2 h2]; omega
theorem right_j {d : Int} (h0 : -4096 ≤ d) (h1 : d ≤ 4094) (h2 : d % 2 = 0) : right ⟨62, 0, 0, 0, d⟩ = true := by
  have e : right ⟨62, 0, 0, 0, d⟩ = _ := right_succ 61 0 0 0 d (by omega)
  rw [e, show (row 61).kind = 74 from rfl]
  simp [has, register, fitsImm, between, tmod2 h2]; omega
def PartOk (n : Nat) (p : Prt) : Prop := p.data = [] ∧ ((p.tg = [] ∧ right p.ins = true ∧ noBr p.ins.op) ∨
  (∃ t, t ≤ n ∧ p.tg = nmL t ∧ ∀ d : Int, -4096 ≤ d → d ≤ 4094 → d % 2 = 0 → right ⟨p.ins.op, p.ins.rd, p.ins.rs1, p.ins.rs2, d⟩ = true))
theorem parts_ok {l : List Sta} (h : ∀ x ∈ l, StaOk l.length x) {j : Nat} {p : Prt} (hp : p ∈ partsAt l j) : PartOk l.length p := by
  unfold partsAt at hp
  split at hp
  · obtain ⟨h1, h2, h3⟩ := load_ok (r := 31) (n := 2048) ⟨by omega, by omega⟩ (by omega) (by omega) hp
    exact ⟨h1, .inl ⟨h2, h3⟩⟩
  · split at hp
    · rename_i x hx
      have hxo := h x (List.mem_of_getElem? hx)
      obtain ⟨kind, ⟨op, rd, rs1, rs2, imm⟩, tg⟩ := x
      unfold partsOf at hp
      rcases hxo with ⟨h0, ⟨k, h1, h2⟩, ⟨h3, h3'⟩, h4, h5⟩ | ⟨h0, h1⟩ | ⟨h0, ⟨h1, h1'⟩, h2, h3⟩ | ⟨h0, ⟨k, g1, g2⟩, h2, _⟩
      · simp only at h0 h1 h3 h3' h4 h5
        subst h0 h1
        have hc : 0 ≤ rs2 ∧ rs2 ≤ 31 := by
          rcases h4 with e | ⟨e1, e2⟩ <;> omega
        simp only [if_true, List.mem_singleton] at hp
        rw [hp]
        exact ⟨rfl, .inr ⟨tg, h5, rfl, fun d d0 d1 d2 => right_brd (ro := k) (a := rs1) (c := rs2) h2 ⟨by omega, by omega⟩ hc d0 d1 d2⟩⟩
      · simp only at h0 h1
        subst h0
        simp only [Nat.one_ne_zero, if_false, if_true, List.mem_singleton] at hp
        rw [hp]
        exact ⟨rfl, .inr ⟨tg, h1, rfl, fun d d0 d1 d2 => right_j d0 d1 d2⟩⟩
      · simp only at h0 h1 h1' h2 h3
        subst h0
        simp at hp
        obtain ⟨g1, g2, g3⟩ := load_ok ⟨by omega, by omega⟩ h2 h3 hp
        exact ⟨g1, .inl ⟨g2, g3⟩⟩
      · simp only at h0
        subst h0
        simp at hp
        rw [hp]
        have hb : ∀ j ∈ plainOps, ¬ (53 ≤ j ∧ j ≤ 58) ∧ ¬ j = 61 := by decide
        have hk := hb k g1
        exact ⟨rfl, .inl ⟨rfl, h2, by unfold noBr; simp only at g2 ⊢; omega⟩⟩
    · simp only [List.mem_singleton] at hp
      rw [hp]
      exact ⟨rfl, .inl ⟨rfl, by decide, by unfold noBr brkI; simp⟩⟩
theorem parts_len (l : List Sta) (j : Nat) : 1 ≤ (partsAt l j).length ∧ (partsAt l j).length ≤ 2 := by
  have hload : ∀ r n, 1 ≤ (loadP r n).length ∧ (loadP r n).length ≤ 2 := fun r n => by
    unfold loadP
    split
    · simp
    · split <;> simp
  unfold partsAt
  split
  · exact hload _ _
  · split
    · unfold partsOf
      split
      · simp
      · split
        · simp
        · split
          · exact hload _ _
          · simp
    · simp
theorem qUp_len (l : List Sta) : ∀ j, j ≤ (qUp l j).length ∧ (qUp l j).length ≤ 2 * j
  | 0 => by simp [qUp]
  | j + 1 => by
    have ih := qUp_len l j
    have h := parts_len l j
    rw [qUp, List.length_append, List.length_map]
    omega
end Pn
