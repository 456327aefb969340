import Derived.Test.YtbmcofdodfcnnaaGreatDoorGPR
import Derived.Test.YtbmcofdodfcnnaaGreatDoorGSC
namespace Pn
open Go
theorem split_last : ∀ (Ts : List (List UInt8)) (L : List UInt8), (∀ T ∈ Ts, ∀ c ∈ T, c ≠ 10) → (∀ c ∈ L, c ≠ 10) → Lib.splitK [10] 0 (Lib.count (Ts.flatMap (· ++ [10]) ++ L) [10]) (Ts.flatMap (· ++ [10]) ++ L) = Ts ++ [L]
  | [], L, _, hL => by
    rw [Lib.count_one, List.flatMap_nil, List.nil_append, List.count_eq_zero.2 (fun hm => hL 10 hm rfl)]
    rfl
  | T :: Ts, L, h, hL => by
    have ih := split_last Ts L (fun S hS => h S (by simp [hS])) hL
    have e : (T :: Ts).flatMap (· ++ [10]) ++ L = T ++ 10 :: (Ts.flatMap (· ++ [10]) ++ L) := by simp
    have hT : ∀ c ∈ T, c ≠ 10 := h T (by simp)
    have hc : Lib.count (T ++ 10 :: (Ts.flatMap (· ++ [10]) ++ L)) [10] = Lib.count (Ts.flatMap (· ++ [10]) ++ L) [10] + 1 := by
      rw [Lib.count_one, Lib.count_one, List.count_append, List.count_cons_self, List.count_eq_zero.2 (fun hm => hT 10 hm rfl)]
      omega
    rw [e, hc, Lib.splitK, idx_at T _ 10 hT]
    rw [if_neg (by simp)]
    have e2 : (T ++ 10 :: (Ts.flatMap (· ++ [10]) ++ L)).drop ((T.length : Int).toNat + ([10] : List UInt8).length) = Ts.flatMap (· ++ [10]) ++ L := by simp
    rw [e2, ih]
    simp
def firstT : List UInt8 := [108, 105, 32, 120, 51, 49, 44, 32, 50, 48, 52, 56]
def lineT (k : Nat) (x : Sta) : List UInt8 := nmL k ++ [58, 32] ++ staT x
def linesP (k : Nat) : List Sta → List (List UInt8)
  | [] => []
  | x :: xs => lineT k x :: linesP (k + 1) xs
def lastT (n : Nat) : List UInt8 := nmL n ++ [58, 32, 101, 98, 114, 101, 97, 107]
theorem bodyT_lines : ∀ (l : List Sta) (k : Nat), bodyT k l = (linesP k l).flatMap (· ++ [10])
  | [], _ => rfl
  | x :: l, k => by
    rw [bodyT, bodyT_lines l (k + 1), linesP, List.flatMap_cons]
    simp [lineT]
theorem progT_lines (l : List Sta) : progT l = (firstT :: linesP 0 l).flatMap (· ++ [10]) ++ lastT l.length := by
  rw [progT, bodyT_lines, List.flatMap_cons]
  simp [firstT, lastT]
theorem linesP_at : ∀ (l : List Sta) (k j : Nat), (linesP k l)[j]? = l[j]?.map (lineT (k + j))
  | [], k, j => by simp [linesP]
  | x :: l, k, 0 => by simp [linesP]
  | x :: l, k, j + 1 => by
    rw [linesP, List.getElem?_cons_succ, linesP_at l (k + 1) j, List.getElem?_cons_succ, show k + 1 + j = k + (j + 1) by omega]
theorem linesP_len : ∀ (l : List Sta) (k : Nat), (linesP k l).length = l.length
  | [], _ => rfl
  | _ :: l, k => by rw [linesP, List.length_cons, linesP_len l (k + 1), List.length_cons]
def Fine (m : Nat) (l : List UInt8) : Prop := (∀ c ∈ l, plainC c) ∧ l.length ≤ m
theorem Fine.app {a b : Nat} {l r : List UInt8} (h : Fine a l) (k : Fine b r) : Fine (a + b) (l ++ r) :=
  ⟨fun c hc => (List.mem_append.1 hc).elim (h.1 c) (k.1 c), by rw [List.length_append]; exact Nat.add_le_add h.2 k.2⟩
theorem fine_itoa {n : Int} (h0 : -9223372036854775808 ≤ n) (h1 : n ≤ 9223372036854775807) : Fine 21 (Lib.itoa n) := ⟨plain_itoa n, by have := Lib.itoa_length_le n h0 h1; omega⟩
theorem fine_small {n : Nat} (h : n < 100) : Fine 2 (Lib.itoa n) := ⟨plain_itoa n, by
  have e : Lib.itoa (n : Int) = Lib.decDigits n := itoa_nn n
  rw [e]
  by_cases h9 : n < 10
  · rw [Lib.decDigits_one h9]; simp
  · rw [Lib.decDigits_two h9 h]; simp⟩
theorem fine_nm {n : Nat} (h : n < 100) : Fine 3 (nmL n) := by
  have := fine_small h
  refine ⟨fun c hc => ?_, by unfold nmL; rw [List.length_cons]; have := this.2; omega⟩
  rcases List.mem_cons.1 hc with rfl | hc
  · exact ⟨by decide, by decide⟩
  · exact this.1 c hc
theorem fine_reg {r : Int} (h0 : 0 ≤ r) (h1 : r < 100) : Fine 3 (regL r) := by
  obtain ⟨n, rfl⟩ : ∃ n : Nat, r = n := ⟨r.toNat, by omega⟩
  have := fine_small (show n < 100 by omega)
  exact ⟨plain_regL _, by unfold regL; rw [List.length_cons]; have := this.2; omega⟩
theorem fine_name {k : Nat} (h : k < 64) : Fine 8 (row k).name := ⟨fun c hc => by
  have := names_plain k h
  rw [List.all_eq_true] at this
  simpa [plainC] using this c hc, row_name k h⟩
theorem fine_lit {l : List UInt8} {m : Nat} (h : (l.all fun c => c != 10 && c != 35) = true) (hm : l.length ≤ m) : Fine m l := ⟨fun c hc => by
  rw [List.all_eq_true] at h
  simpa [plainC] using h c hc, hm⟩
end Pn
namespace Pn
open Go
theorem cut_zero (l t : List UInt8) : cutM l 0 t = cutM l 0 [] := by
  cases l with
  | nil => rfl
  | cons c l => simp [cutM, goes, endP]
theorem cut_nm {n : Nat} {l t : List UInt8} {k : Int} {ps : List Pc} (hk : k = 0 ∨ k = 3) (he : endP k t = some ps) : cutM (nmL n ++ l) k t = (cutM l 1 (nmL n)).map (ps ++ ·) := by
  unfold nmL
  rw [itoa_nn]
  exact cut_tok (goes_03 hk _) he (by decide) (fun x hx => goes_1d (dec_dig n x hx))
theorem nm_is {n : Nat} (h : n < 100) : isNm 1 (nmL n) = true := by
  have h1 := (fine_nm h).2
  have h2 : Lib.indexByte (nmL n) 46 = -1 := by
    refine idxB_none _ _ (fun c hc => ?_)
    rcases List.mem_cons.1 hc with rfl | hc
    · decide
    · rw [itoa_nn] at hc
      have := dec_dig n c hc
      intro e
      rw [e] at this
      revert this
      decide
  unfold isNm
  rw [h2]
  simp
  omega
def Stm (rest : List UInt8) (ps : List Prt) : Prop := ∃ L, cutM rest 0 [] = some L ∧ ∀ nm, rstmt nm L = (nm, ps, 0)
theorem rline_label {k : Nat} {rest : List UInt8} {ps : List Prt} (hk : k < 100) (hp : ∀ c ∈ rest, plainC c) (h : Stm rest ps) : rline (nmL k ++ [58, 32] ++ rest) = (nmL k, ps, 0) := by
  obtain ⟨L, hL, hr⟩ := h
  have hc : cutM (nmL k ++ [58, 32] ++ rest) 0 [] = some ((1, nmL k) :: (3, [58]) :: L) := by
    rw [List.append_assoc, cut_nm (.inl rfl) (endP_zero _), show [58, 32] ++ rest = 58 :: 32 :: rest from rfl, cutM_next (k' := 3) (by decide) (end1 _) (by decide), cutM_next (k' := 0) (by decide) (end3 _) (by decide), cut_zero, hL]
    rfl
  have hn : ∀ c ∈ nmL k ++ [58, 32] ++ rest, c ≠ 35 := by
    intro c hc
    rcases List.mem_append.1 hc with hc | hc
    · rcases List.mem_append.1 hc with hc | hc
      · exact ((fine_nm hk).1 c hc).2
      · simp only [List.mem_cons, List.not_mem_nil, or_false] at hc
        rcases hc with rfl | rfl <;> decide
    · exact (hp c hc).2
  unfold rline
  rw [no_cut hn, hc]
  simp only [rlineP, nm_is hk, if_true, hr]
theorem stm_ins {i : Ins} (h : right i = true) : Stm (shw i).1 [⟨[], i, []⟩] := by
  obtain ⟨k, hk, ho⟩ := right_op h
  obtain ⟨op, rd, rs1, rs2, imm⟩ := i
  simp only at ho
  subst ho
  rw [shw_yes h]
  have hko := kinds_ok k hk
  have hs := shape_back hk h
  obtain ⟨n1, n2, n3, _⟩ := names_other k hk
  refine ⟨_, cut_text k hk ⟨k + 1, rd, rs1, rs2, imm⟩ (bnd_of hk h) hko, fun nm => ?_⟩
  have hr : rinN ⟨(row k).name.toArray⟩ ((shp (row k).kind).flatMap (pcOf ⟨k + 1, rd, rs1, rs2, imm⟩)) = (⟨[], ⟨k + 1, rd, rs1, rs2, imm⟩, []⟩, 0) := by
    have hn : nmd ⟨(row k).name.toArray⟩ = some (⟨k + 1, 0, 0, 0, 0⟩, shp (row k).kind) := by unfold nmd; rw [name_find hk]
    unfold rinN
    rw [hn]
    simp only [hs, h, if_true]
  unfold rstmt rst
  simp only [n1, n2, hr]
  simp [n3]
theorem br_kind : ∀ r, r < 6 → (row (r + 53)).kind = 66 := by decide
theorem right_br {ro : Nat} {a c : Int} (h : ro < 6) (ha : 0 ≤ a ∧ a ≤ 31) (hc : 0 ≤ c ∧ c ≤ 31) : right ⟨(ro : Int) + 54, 0, a, c, 0⟩ = true := by
  have e : (ro : Int) + 54 = ((ro + 53 : Nat) : Int) + 1 := by omega
  rw [e, right_succ _ _ _ _ _ (by omega), br_kind ro h]
  simp [has, register, fitsImm, between]; omega
theorem stm_br {ro tg : Nat} {a c : Int} (h : ro < 6) (ha : 0 ≤ a ∧ a ≤ 31) (hc : 0 ≤ c ∧ c ≤ 31) (ht : tg < 100) : Stm (staT ⟨0, ⟨(ro : Int) + 54, 0, a, c, 0⟩, tg⟩) [⟨[], ⟨(ro : Int) + 54, 0, a, c, 0⟩, nmL tg⟩] := by
  rw [brS_text]
  have hk : ro + 53 < 64 := by omega
  obtain ⟨n1, n2, n3, _⟩ := names_other (ro + 53) hk
  have e0 : cutM ((row (ro + 53)).name ++ [32] ++ regL a ++ [44, 32] ++ regL c ++ [44, 32] ++ nmL tg) 0 [] = some [(1, (row (ro + 53)).name), (1, regL a), (3, [44]), (1, regL c), (3, [44]), (1, nmL tg)] := by
    have e : (row (ro + 53)).name ++ [32] ++ regL a ++ [44, 32] ++ regL c ++ [44, 32] ++ nmL tg = (row (ro + 53)).name ++ (32 :: (regL a ++ (44 :: 32 :: (regL c ++ (44 :: 32 :: (nmL tg ++ [])))))) := by simp
    rw [e, cut_name _ _ (name_ok _ hk), cutM_next (k' := 0) (by decide) (end1 _) (by decide), cut_reg ha.1 (.inl rfl) (endP_zero _), cutM_next (k' := 3) (by decide) (end1 _) (by decide), cutM_next (k' := 0) (by decide) (end3 _) (by decide),
      cut_reg hc.1 (.inl rfl) (endP_zero _), cutM_next (k' := 3) (by decide) (end1 _) (by decide), cutM_next (k' := 0) (by decide) (end3 _) (by decide), cut_nm (.inl rfl) (endP_zero _)]
    simp [cutM, end1]
  refine ⟨_, e0, fun nm => ?_⟩
  have hr : rinN ⟨(row (ro + 53)).name.toArray⟩ [(1, regL a), (3, [44]), (1, regL c), (3, [44]), (1, nmL tg)] = (⟨[], ⟨(ro : Int) + 54, 0, a, c, 0⟩, nmL tg⟩, 0) := by
    have hn : nmd ⟨(row (ro + 53)).name.toArray⟩ = some (⟨((ro + 53 : Nat) : Int) + 1, 0, 0, 0, 0⟩, shp (row (ro + 53)).kind) := by unfold nmd; rw [name_find hk]
    have hs : shp 66 = [115, 44, 116, 44, 112] := by decide
    have e1 : ((ro + 53 : Nat) : Int) + 1 = (ro : Int) + 54 := by omega
    unfold rinN
    rw [hn, br_kind ro h, hs, e1]
    simp [pshape, pstep, preg_regL ha.1 ha.2, preg_regL hc.1 hc.2, nm_is ht, right_br h ha hc]
  unfold rstmt rst
  simp only [n1, n2, hr]
  simp [n3]
theorem j_names : ∀ k, k < 64 → ((row k).name == [106]) = false := by decide
theorem stm_j {tg : Nat} (ht : tg < 100) : Stm (staT ⟨1, ⟨0, 0, 0, 0, 0⟩, tg⟩) [⟨[], ⟨62, 0, 0, 0, 0⟩, nmL tg⟩] := by
  rw [jS_text]
  have e0 : cutM ([106, 32] ++ nmL tg) 0 [] = some [(1, [106]), (1, nmL tg)] := by
    have e : [106, 32] ++ nmL tg = [106] ++ (32 :: (nmL tg ++ [])) := by simp
    rw [e, cut_name _ _ (by decide), cutM_next (k' := 0) (by decide) (end1 _) (by decide), cut_nm (.inl rfl) (endP_zero _)]
    simp [cutM, end1]
  refine ⟨_, e0, fun nm => ?_⟩
  have hr : rinN ⟨([106] : List UInt8).toArray⟩ [(1, nmL tg)] = (⟨[], ⟨62, 0, 0, 0, 0⟩, nmL tg⟩, 0) := by
    have hn : nmd ⟨([106] : List UInt8).toArray⟩ = some (⟨62, 0, 0, 0, 0⟩, [112]) := by
      have hf : (List.range 64).find? (byName ⟨([106] : List UInt8).toArray⟩) = none := by
        rw [List.find?_eq_none]
        intro k hk
        have h1 := j_names k (by simpa using hk)
        unfold byName
        simpa [ByteArray.toList_eq] using h1
      unfold nmd
      rw [hf]
      rfl
    unfold rinN
    rw [hn]
    have hr : right ⟨62, 0, 0, 0, 0⟩ = true := by decide
    simp [pshape, pstep, nm_is ht, hr]
  unfold rstmt rst
  simp only [hr]
  simp [Lib.hasPrefix, dsz]
end Pn
namespace Pn
open Go
theorem dec_len2 (u : Nat) (h : u < 10000000000) : 1 ≤ (Lib.decDigits u).length ∧ (Lib.decDigits u).length ≤ 10 := by
  rw [Lib.decDigits_length]
  refine ⟨Lib.nDigits_pos u, ?_⟩
  have h7 : ∀ v, v < 10 → Lib.nDigits v = 1 := fun v hv => Lib.nDigits_small hv
  have hb : ∀ v, Lib.nDigits v ≤ Lib.nDigits (v / 10) + 1 := fun v => by
    by_cases hv : v < 10
    · rw [Lib.nDigits_small hv]; omega
    · rw [Lib.nDigits_big hv]; omega
  have a1 := hb u
  have a2 := hb (u / 10)
  have a3 := hb (u / 10 / 10)
  have a4 := hb (u / 10 / 10 / 10)
  have a5 := hb (u / 10 / 10 / 10 / 10)
  have a6 := hb (u / 10 / 10 / 10 / 10 / 10)
  have a7 := hb (u / 10 / 10 / 10 / 10 / 10 / 10)
  have a8 := hb (u / 10 / 10 / 10 / 10 / 10 / 10 / 10)
  have a9 := hb (u / 10 / 10 / 10 / 10 / 10 / 10 / 10 / 10)
  have a10 := h7 (u / 10 / 10 / 10 / 10 / 10 / 10 / 10 / 10 / 10) (by omega)
  omega
theorem parse_app2 : ∀ (l : List UInt8) (c : UInt8) (acc u : Nat), Lib.parseUint10 acc l = .ok u → u < 100000000000 → 48 ≤ c.toNat → c.toNat ≤ 57 → Lib.parseUint10 acc (l ++ [c]) = .ok (u * 10 + (c.toNat - 48))
  | [], c, acc, u, h, hu, h0, h1 => by
    simp only [Lib.parseUint10] at h
    injection h with h
    subst h
    simp only [List.nil_append, Lib.parseUint10]
    rw [if_pos ⟨h0, h1⟩, if_neg (by omega), if_neg (by omega)]
  | d :: r, c, acc, u, h, hu, h0, h1 => by
    simp only [List.cons_append, Lib.parseUint10] at h ⊢
    split at h
    · rename_i hd
      rw [if_pos hd]
      split at h
      · cases h
      · rename_i hx
        rw [if_neg hx]
        split at h
        · cases h
        · rename_i hy
          rw [if_neg hy]
          exact parse_app2 r c _ u h hu h0 h1
    · cases h
theorem parse_dec2 (u : Nat) (h : u < 100000000000) : Lib.parseUint10 0 (Lib.decDigits u) = .ok u := by
  induction u using Nat.strongRecOn with
  | _ u ih =>
    by_cases hs : u < 10
    · rw [Lib.decDigits_one hs]
      have e : (UInt8.ofNat (48 + u)).toNat = 48 + u := by rw [UInt8.toNat_ofNat']; omega
      simp only [Lib.parseUint10, e]
      rw [if_pos ⟨by omega, by omega⟩, if_neg (by omega), if_neg (by omega)]
      congr 1
      omega
    · rw [Lib.decDigits, dif_neg hs]
      have e : (UInt8.ofNat (48 + u % 10)).toNat = 48 + u % 10 := by rw [UInt8.toNat_ofNat']; omega
      rw [parse_app2 _ _ 0 (u / 10) (ih (u / 10) (by omega) (by omega)) (by omega) (by rw [e]; omega) (by rw [e]; omega), e]
      congr 1
      omega
theorem mag_dec2 (u : Nat) (h : u < 100000000000) : Lib.parseMag (Lib.decDigits u) = .ok u := by
  unfold Lib.parseMag
  rw [if_neg (dec_ne u), parse_dec2 u h]
theorem atoi_itoa2 (n : Int) (h0 : -10000000000 < n) (h1 : n < 10000000000) : Lib.atoiAll (Lib.itoa n) = .ok n := by
  by_cases hn : n < 0
  · obtain ⟨u, hu⟩ : ∃ u : Nat, n = -(u : Int) := ⟨n.natAbs, by omega⟩
    subst hu
    rw [itoa_ng u (by omega)]
    unfold Lib.atoiAll
    simp only
    rw [if_pos (show UInt8.toNat 45 = 43 ∨ UInt8.toNat 45 = 45 from .inr rfl), mag_dec2 u (by omega)]
    simp only
    rw [if_neg (fun h => h.1 rfl), if_neg (fun h => by have := h.2; omega), if_pos (show UInt8.toNat 45 = 45 from rfl)]
  · obtain ⟨u, hu⟩ : ∃ u : Nat, n = (u : Int) := ⟨n.toNat, by omega⟩
    subst hu
    rw [itoa_nn]
    obtain ⟨c, r, e, c0, c1, _⟩ := dec_cons u
    have hm := mag_dec2 u (by omega)
    rw [e] at hm ⊢
    unfold Lib.atoiAll
    simp only
    have e1 : ¬ (c.toNat = 43 ∨ c.toNat = 45) := by omega
    have e2 : ¬ c.toNat = 45 := by omega
    rw [if_neg e1, hm]
    simp only [e2]
    rw [if_neg (by omega), if_neg (by simp), if_neg (by simp)]
theorem isInt_itoa2 (n : Int) (h0 : -10000000000 < n) (h1 : n < 10000000000) : isInt (Lib.itoa n) = true := by
  by_cases hn : n < 0
  · obtain ⟨u, hu⟩ : ∃ u : Nat, n = -(u : Int) := ⟨n.natAbs, by omega⟩
    subst hu
    rw [itoa_ng u (by omega)]
    have hl := dec_len2 u (by omega)
    have e : Lib.trimPrefix (45 :: Lib.decDigits u) [45] = Lib.decDigits u := by simp [Lib.trimPrefix, Lib.hasPrefix]
    unfold isInt
    rw [e]
    simp; omega
  · obtain ⟨u, hu⟩ : ∃ u : Nat, n = (u : Int) := ⟨n.toNat, by omega⟩
    subst hu
    rw [itoa_nn]
    have hl := dec_len2 u (by omega)
    have e : Lib.trimPrefix (Lib.decDigits u) [45] = Lib.decDigits u := by
      obtain ⟨c, r, e, c0, c1, _⟩ := dec_cons u
      rw [e]
      have : ¬ 45 = c := fun h => by rw [← h] at c0; revert c0; decide
      simp [Lib.trimPrefix, Lib.hasPrefix, this]
    unfold isInt
    rw [e]
    simp; omega
theorem pnum_itoa2 {n : Int} (h0 : -10000000000 < n) (h1 : n < 10000000000) : pnum 2 (Lib.itoa n) = some n := by
  unfold pnum
  rw [if_pos rfl, atoi_itoa2 n h0 h1]
theorem stm_li {a n : Int} (ha : 0 ≤ a ∧ a ≤ 31) (h0 : -2147483648 ≤ n) (h1 : n < 2147483648) : Stm (staT ⟨2, ⟨0, a, 0, 0, n⟩, 0⟩) (loadP a n) := by
  rw [liS_text]
  have e0 : cutM ([108, 105, 32] ++ regL a ++ [44, 32] ++ Lib.itoa n) 0 [] = some [(1, [108, 105]), (1, regL a), (3, [44]), (2, Lib.itoa n)] := by
    have e : [108, 105, 32] ++ regL a ++ [44, 32] ++ Lib.itoa n = [108, 105] ++ (32 :: (regL a ++ (44 :: 32 :: (Lib.itoa n ++ [])))) := by simp
    rw [e, cut_name _ _ (by decide), cutM_next (k' := 0) (by decide) (end1 _) (by decide), cut_reg ha.1 (.inl rfl) (endP_zero _), cutM_next (k' := 3) (by decide) (end1 _) (by decide), cutM_next (k' := 0) (by decide) (end3 _) (by decide), cut_num (.inl rfl) (endP_zero _)]
    have e2 : cutM [] 2 (Lib.itoa n) = some [(2, Lib.itoa n)] := by simp [cutM, endP, endOk, isInt_itoa2 n (by omega) (by omega)]
    rw [e2]
    simp
  refine ⟨_, e0, fun nm => ?_⟩
  have hr : rload [(1, regL a), (3, [44]), (2, Lib.itoa n)] = (loadP a n, 0) := by
    unfold rload
    have hs : pshape [100, 44, 105] [(1, regL a), (3, [44]), (2, Lib.itoa n)] zIns [] = some (⟨0, a, 0, 0, n⟩, []) := by
      simp [pshape, pstep, preg_regL ha.1 ha.2, pnum_itoa2 (n := n) (by omega) (by omega), zIns]
    rw [hs]
    simp only
    rw [if_neg (by omega)]
  unfold rstmt rst
  simp [Lib.hasPrefix, dsz, hr]
end Pn
namespace Pn
open Go
def partsOf (x : Sta) : List Prt :=
  if x.kind = 0 then [⟨[], ⟨x.ins.op, 0, x.ins.rs1, x.ins.rs2, 0⟩, nmL x.tg⟩]
  else if x.kind = 1 then [⟨[], ⟨62, 0, 0, 0, 0⟩, nmL x.tg⟩]
  else if x.kind = 2 then loadP x.ins.rd x.ins.imm
  else [⟨[], x.ins, []⟩]
theorem right_shw {i : Ins} (h : right i = true) : showL (i.op - 1).toNat i.rd i.rs1 i.rs2 i.imm = (shw i).1 := by unfold shw; rw [if_pos h]
theorem sta_stm {n : Nat} {x : Sta} (h : StaOk n x) (hn : n < 100) : Stm (staT x) (partsOf x) := by
  obtain ⟨kind, ⟨op, rd, rs1, rs2, imm⟩, tg⟩ := x
  rcases h with ⟨h0, ⟨k, h1, h2⟩, ⟨h3, h3'⟩, h4, h5⟩ | ⟨h0, h1⟩ | ⟨h0, ⟨h1, h1'⟩, h2, h3⟩ | ⟨h0, h1, h2, _⟩
  · simp only at h0 h1 h3 h3' h4 h5
    subst h0 h1
    have hc : 0 ≤ rs2 ∧ rs2 ≤ 31 := by
      rcases h4 with e | ⟨e1, e2⟩ <;> omega
    exact stm_br (ro := k) (tg := tg) h2 ⟨by omega, by omega⟩ hc (by omega)
  · simp only at h0 h1
    subst h0
    exact stm_j (tg := tg) (by omega)
  · simp only at h0 h1 h1' h2 h3
    subst h0
    exact stm_li (a := rd) (n := imm) ⟨by omega, by omega⟩ h2 h3
  · simp only at h0
    subst h0
    have := stm_ins h2
    rw [← right_shw h2] at this
    exact this
theorem sta_fine {n : Nat} {x : Sta} (h : StaOk n x) (hn : n < 100) : Fine 63 (staT x) := by
  obtain ⟨kind, ⟨op, rd, rs1, rs2, imm⟩, tg⟩ := x
  rcases h with ⟨h0, ⟨k, h1, h2⟩, ⟨h3, h3'⟩, h4, h5⟩ | ⟨h0, h1⟩ | ⟨h0, ⟨h1, h1'⟩, h2, h3⟩ | ⟨h0, ⟨k, g1, g2⟩, h2, _⟩
  · simp only at h0 h1 h3 h3' h4 h5
    subst h0 h1
    have hc : 0 ≤ rs2 ∧ rs2 ≤ 31 := by
      rcases h4 with e | ⟨e1, e2⟩ <;> omega
    have e : staT ⟨0, ⟨(k : Int) + 54, rd, rs1, rs2, imm⟩, tg⟩ = _ := brS_text k tg rs1 rs2
    rw [e]
    have := ((((((fine_name (show k + 53 < 64 by omega)).app (fine_lit (l := [32]) (m := 1) (by decide) (by decide))).app (fine_reg (r := rs1) (by omega) (by omega))).app (fine_lit (l := [44, 32]) (m := 2) (by decide) (by decide))).app (fine_reg (r := rs2) (by omega) (by omega))).app (fine_lit (l := [44, 32]) (m := 2) (by decide) (by decide))).app (fine_nm (n := tg) (by omega))
    exact ⟨this.1, Nat.le_trans this.2 (by decide)⟩
  · simp only at h0 h1
    subst h0
    have e : staT ⟨1, ⟨op, rd, rs1, rs2, imm⟩, tg⟩ = _ := jS_text tg
    rw [e]
    have := (fine_lit (l := [106, 32]) (m := 2) (by decide) (by decide)).app (fine_nm (n := tg) (by omega))
    exact ⟨this.1, Nat.le_trans this.2 (by decide)⟩
  · simp only at h0 h1 h1' h2 h3
    subst h0
    have e : staT ⟨2, ⟨op, rd, rs1, rs2, imm⟩, tg⟩ = _ := liS_text rd imm
    rw [e]
    have := (((fine_lit (l := [108, 105, 32]) (m := 3) (by decide) (by decide)).app (fine_reg (r := rd) (by omega) (by omega))).app (fine_lit (l := [44, 32]) (m := 2) (by decide) (by decide))).app (fine_itoa (n := imm) (by omega) (by omega))
    exact ⟨this.1, Nat.le_trans this.2 (by decide)⟩
  · simp only at h0 g2 h2
    subst h0 g2
    have hk : k < 64 := by
      have : ∀ j ∈ plainOps, j < 64 := by decide
      exact this k g1
    have hko := kinds_ok k hk
    have H := bnd_of hk h2
    have e : staT ⟨3, ⟨(k : Int) + 1, rd, rs1, rs2, imm⟩, tg⟩ = (row k).name ++ behind (row k).kind (regL rd) (regL rs1) (regL rs2) (Lib.itoa imm) := by
      simp [staT, showL]
    rw [e]
    refine ⟨plain_text k hk ⟨(k : Int) + 1, rd, rs1, rs2, imm⟩ hko, ?_⟩
    have hb := shp_behind hko ⟨(k : Int) + 1, rd, rs1, rs2, imm⟩
    have hf := flat_le ⟨(k : Int) + 1, rd, rs1, rs2, imm⟩ H (shp (row k).kind) (shp_lett hko)
    have hl := shp_len (row k).kind
    have hn' := row_name k hk
    rw [← hb, List.length_append]
    split
    · simp only [List.length_nil]; omega
    · rw [List.length_cons]; omega
end Pn
