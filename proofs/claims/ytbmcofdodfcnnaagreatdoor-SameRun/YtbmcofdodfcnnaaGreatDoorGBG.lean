import Derived.Test.YtbmcofdodfcnnaaGreatDoorGQ
import Derived.Test.YtbmcofdodfcnnaaGreatDoorGP
namespace Pn
open Go
theorem itoa_nn (u : Nat) : Lib.itoa (u : Int) = Lib.decDigits u := by unfold Lib.itoa; rw [if_neg (by omega)]; simp
theorem itoa_ng (u : Nat) (h : 1 ≤ u) : Lib.itoa (-(u : Int)) = 45 :: Lib.decDigits u := by unfold Lib.itoa; rw [if_pos (by omega)]; simp
theorem dec_dig (u : Nat) : ∀ c ∈ Lib.decDigits u, 48 ≤ c.toNat ∧ c.toNat ≤ 57 := by
  induction u using Nat.strongRecOn with
  | _ u ih =>
    by_cases h : u < 10
    · rw [Lib.decDigits_one h]
      intro c hc
      simp only [List.mem_singleton] at hc
      rw [hc, UInt8.toNat_ofNat']
      omega
    · rw [Lib.decDigits, dif_neg h]
      intro c hc
      rcases List.mem_append.1 hc with hc | hc
      · exact ih (u / 10) (by omega) c hc
      · simp only [List.mem_singleton] at hc
        rw [hc, UInt8.toNat_ofNat']
        omega
theorem dec_ne (u : Nat) : Lib.decDigits u ≠ [] := by
  intro h
  have h1 := Lib.decDigits_length u
  rw [h] at h1
  have := Lib.nDigits_pos u
  simp at h1
  omega
theorem dec_len (u : Nat) (h : u < 10000000) : 1 ≤ (Lib.decDigits u).length ∧ (Lib.decDigits u).length ≤ 7 := by
  rw [Lib.decDigits_length]
  refine ⟨Lib.nDigits_pos u, ?_⟩
  have h7 : ∀ v, v < 10 → Lib.nDigits v = 1 := fun v hv => Lib.nDigits_small hv
  have hb : ∀ v, Lib.nDigits v ≤ Lib.nDigits (v / 10) + 1 := fun v => by
    by_cases hv : v < 10
    · rw [Lib.nDigits_small hv]; omega
    · rw [Lib.nDigits_big hv]; omega
  have a1 := hb u
  have a2 := hb (u / 10)
  have a3 := hb (u / 10 / 10)
  have a4 := hb (u / 10 / 10 / 10)
  have a5 := hb (u / 10 / 10 / 10 / 10)
  have a6 := hb (u / 10 / 10 / 10 / 10 / 10)
  have a7 := h7 (u / 10 / 10 / 10 / 10 / 10 / 10) (by omega)
  omega
theorem parse_app : ∀ (l : List UInt8) (c : UInt8) (acc u : Nat), Lib.parseUint10 acc l = .ok u → u < 100000000 → 48 ≤ c.toNat → c.toNat ≤ 57 → Lib.parseUint10 acc (l ++ [c]) = .ok (u * 10 + (c.toNat - 48))
  | [], c, acc, u, h, hu, h0, h1 => by
    simp only [Lib.parseUint10] at h
    injection h with h
    subst h
    simp only [List.nil_append, Lib.parseUint10]
    rw [if_pos ⟨h0, h1⟩, if_neg (by omega), if_neg (by omega)]
  | d :: r, c, acc, u, h, hu, h0, h1 => by
    simp only [List.cons_append, Lib.parseUint10] at h ⊢
    split at h
    · rename_i hd
      rw [if_pos hd]
      split at h
      · cases h
      · rename_i hx
        rw [if_neg hx]
        split at h
        · cases h
        · rename_i hy
          rw [if_neg hy]
          exact parse_app r c _ u h hu h0 h1
    · cases h
theorem parse_dec (u : Nat) (h : u < 100000000) : Lib.parseUint10 0 (Lib.decDigits u) = .ok u := by
  induction u using Nat.strongRecOn with
  | _ u ih =>
    by_cases hs : u < 10
    · rw [Lib.decDigits_one hs]
      have e : (UInt8.ofNat (48 + u)).toNat = 48 + u := by rw [UInt8.toNat_ofNat']; omega
      simp only [Lib.parseUint10, e]
      rw [if_pos ⟨by omega, by omega⟩, if_neg (by omega), if_neg (by omega)]
      congr 1
      omega
    · rw [Lib.decDigits, dif_neg hs]
      have e : (UInt8.ofNat (48 + u % 10)).toNat = 48 + u % 10 := by rw [UInt8.toNat_ofNat']; omega
      rw [parse_app _ _ 0 (u / 10) (ih (u / 10) (by omega) (by omega)) (by omega) (by rw [e]; omega) (by rw [e]; omega), e]
      congr 1
      omega
theorem mag_dec (u : Nat) (h : u < 100000000) : Lib.parseMag (Lib.decDigits u) = .ok u := by
  unfold Lib.parseMag
  rw [if_neg (dec_ne u), parse_dec u h]
theorem dec_cons (u : Nat) : ∃ c r, Lib.decDigits u = c :: r ∧ 48 ≤ c.toNat ∧ c.toNat ≤ 57 ∧ ∀ x ∈ r, 48 ≤ x.toNat ∧ x.toNat ≤ 57 := by
  cases h : Lib.decDigits u with
  | nil => exact absurd h (dec_ne u)
  | cons c r =>
    have hd := dec_dig u
    rw [h] at hd
    exact ⟨c, r, rfl, (hd c (List.mem_cons_self)).1, (hd c (List.mem_cons_self)).2, fun x hx => hd x (List.mem_cons_of_mem _ hx)⟩
theorem atoi_itoa (n : Int) (h0 : -10000000 < n) (h1 : n < 10000000) : Lib.atoiAll (Lib.itoa n) = .ok n := by
  by_cases hn : n < 0
  · obtain ⟨u, hu⟩ : ∃ u : Nat, n = -(u : Int) := ⟨n.natAbs, by omega⟩
    subst hu
    rw [itoa_ng u (by omega)]
    unfold Lib.atoiAll
    simp only
    rw [if_pos (show UInt8.toNat 45 = 43 ∨ UInt8.toNat 45 = 45 from .inr rfl), mag_dec u (by omega)]
    simp only
    rw [if_neg (fun h => h.1 rfl), if_neg (fun h => by have := h.2; omega), if_pos (show UInt8.toNat 45 = 45 from rfl)]
  · obtain ⟨u, hu⟩ : ∃ u : Nat, n = (u : Int) := ⟨n.toNat, by omega⟩
    subst hu
    rw [itoa_nn]
    obtain ⟨c, r, e, c0, c1, _⟩ := dec_cons u
    have hm := mag_dec u (by omega)
    rw [e] at hm ⊢
    unfold Lib.atoiAll
    simp only
    have e1 : ¬ (c.toNat = 43 ∨ c.toNat = 45) := by omega
    have e2 : ¬ c.toNat = 45 := by omega
    rw [if_neg e1, hm]
    simp only [e2]
    rw [if_neg (by omega), if_neg (by simp), if_neg (by simp)]
theorem itoa_cons (n : Int) : ∃ c r, Lib.itoa n = c :: r ∧ (c = 45 ∨ (48 ≤ c.toNat ∧ c.toNat ≤ 57)) ∧ ∀ x ∈ r, 48 ≤ x.toNat ∧ x.toNat ≤ 57 := by
  by_cases hn : n < 0
  · obtain ⟨u, hu⟩ : ∃ u : Nat, n = -(u : Int) := ⟨n.natAbs, by omega⟩
    subst hu
    exact ⟨45, Lib.decDigits u, itoa_ng u (by omega), .inl rfl, dec_dig u⟩
  · obtain ⟨u, hu⟩ : ∃ u : Nat, n = (u : Int) := ⟨n.toNat, by omega⟩
    subst hu
    obtain ⟨c, r, e, c0, c1, hr⟩ := dec_cons u
    exact ⟨c, r, by rw [itoa_nn, e], .inr ⟨c0, c1⟩, hr⟩
theorem isInt_itoa (n : Int) (h0 : -10000000 < n) (h1 : n < 10000000) : isInt (Lib.itoa n) = true := by
  have key : ∃ u : Nat, u < 10000000 ∧ Lib.trimPrefix (Lib.itoa n) [45] = Lib.decDigits u := by
    by_cases hn : n < 0
    · obtain ⟨u, hu⟩ : ∃ u : Nat, n = -(u : Int) := ⟨n.natAbs, by omega⟩
      subst hu
      refine ⟨u, by omega, ?_⟩
      rw [itoa_ng u (by omega)]
      simp [Lib.trimPrefix, Lib.hasPrefix]
    · obtain ⟨u, hu⟩ : ∃ u : Nat, n = (u : Int) := ⟨n.toNat, by omega⟩
      subst hu
      refine ⟨u, by omega, ?_⟩
      rw [itoa_nn]
      obtain ⟨c, r, e, c0, c1, _⟩ := dec_cons u
      rw [e]
      have : ¬ (45 : UInt8) = c := fun h => by rw [← h] at c0; revert c0; decide
      simp [Lib.trimPrefix, Lib.hasPrefix, this]
  obtain ⟨u, hu, e⟩ := key
  unfold isInt
  rw [e]
  have := dec_len u hu
  simp
  omega
end Pn
namespace Pn
open Go
theorem goes_03 {k : Int} (h : k = 0 ∨ k = 3) (r : Int) : goes k r = false := by rcases h with rfl | rfl <;> rfl
theorem goes_1d {x : UInt8} (h : 48 ≤ x.toNat ∧ x.toNat ≤ 57) : goes 1 x.toNat = true := by simp [goes, digitB]; omega
theorem goes_2d {x : UInt8} (h : 48 ≤ x.toNat ∧ x.toNat ≤ 57) : goes 2 x.toNat = true := by simp [goes, digitB]; omega
theorem cut_goes {k : Int} : ∀ (t2 l t : List UInt8), (∀ c ∈ t2, goes k c.toNat = true) → cutM (t2 ++ l) k t = cutM l k (t ++ t2)
  | [], l, t, _ => by simp
  | c :: t2, l, t, h => by
    rw [List.cons_append, cutM_goes (h c List.mem_cons_self), cut_goes t2 l (t ++ [c]) (fun x hx => h x (List.mem_cons_of_mem _ hx))]
    simp
theorem cut_tok {c : UInt8} {t2 l t : List UInt8} {k k' : Int} {ps : List Pc} (h : goes k c.toNat = false) (he : endP k t = some ps) (hb : beg c.toNat = some k') (h2 : ∀ x ∈ t2, goes k' x.toNat = true) :
    cutM (c :: t2 ++ l) k t = (cutM l k' (c :: t2)).map (ps ++ ·) := by
  rw [List.cons_append, cutM_next h he hb, cut_goes t2 l [c] h2]
  rfl
def pcOf (i : Ins) (r : UInt8) : List Pc :=
  if r = 100 then [(1, regL i.rd)] else if r = 115 then [(1, regL i.rs1)] else if r = 116 then [(1, regL i.rs2)] else if r = 105 ∨ r = 112 then [(2, Lib.itoa i.imm)] else [(3, [r])]
def wordish (r : UInt8) : Bool := r == 100 || r == 115 || r == 116 || r == 105 || r == 112
def headNo : List UInt8 → Bool
  | [] => true
  | r :: _ => !(wordish r)
def adjB : List UInt8 → Bool
  | [] => true
  | r :: F => (!(wordish r) || headNo F) && adjB F
structure Bnd (i : Ins) : Prop where
  d : 0 ≤ i.rd ∧ i.rd ≤ 31
  s : 0 ≤ i.rs1 ∧ i.rs1 ≤ 31
  t : 0 ≤ i.rs2 ∧ i.rs2 ≤ 31
  n : -10000000 < i.imm ∧ i.imm < 10000000
theorem end1 (t : List UInt8) : endP 1 t = some [(1, t)] := by simp [endP, endOk]
theorem end3 (t : List UInt8) : endP 3 t = some [(3, t)] := by simp [endP, endOk]
theorem cut_reg {n : Int} (hn : 0 ≤ n) {l t : List UInt8} {k : Int} {ps : List Pc} (hk : k = 0 ∨ k = 3) (he : endP k t = some ps) : cutM (regL n ++ l) k t = (cutM l 1 (regL n)).map (ps ++ ·) := by
  obtain ⟨u, rfl⟩ := Int.eq_ofNat_of_zero_le hn
  unfold regL
  rw [itoa_nn]
  exact cut_tok (goes_03 hk _) he (by decide) (fun x hx => goes_1d (dec_dig u x hx))
theorem cut_num {n : Int} {l t : List UInt8} {k : Int} {ps : List Pc} (hk : k = 0 ∨ k = 3) (he : endP k t = some ps) : cutM (Lib.itoa n ++ l) k t = (cutM l 2 (Lib.itoa n)).map (ps ++ ·) := by
  obtain ⟨c, r, e, hc, hr⟩ := itoa_cons n
  rw [e]
  refine cut_tok (goes_03 hk _) he ?_ (fun x hx => goes_2d (hr x hx))
  rcases hc with rfl | ⟨h0, h1⟩
  · decide
  · have a1 : smallB (c.toNat : Int) = false := by simp [smallB]; omega
    have a2 : digitB (c.toNat : Int) = true := by simp [digitB]; omega
    have a3 : ((c.toNat : Int) == 46) = false := by simp; omega
    simp [beg, a1, a2, a3]
theorem goes_sign {k : Int} {r : UInt8} (h : r = 44 ∨ r = 40 ∨ r = 41 ∨ r = 32) : goes k r.toNat = false := by
  unfold goes
  rcases h with rfl | rfl | rfl | rfl <;> (split; rfl; split <;> rfl)
theorem cut_run (i : Ins) (H : Bnd i) : ∀ (F : List UInt8) (k : Int) (t : List UInt8) (ps : List Pc), (∀ r ∈ F, Lett r) → adjB F = true → endP k t = some ps →
    ((k = 0 ∨ k = 3) ∨ headNo F = true) → cutM (F.flatMap (partL i)) k t = some (ps ++ F.flatMap (pcOf i))
  | [], k, t, ps, _, _, he, _ => by simpa [cutM] using he
  | r :: F, k, t, ps, hL, hA, he, hk => by
    have hr := hL r List.mem_cons_self
    have hL' : ∀ x ∈ F, Lett x := fun x hx => hL x (List.mem_cons_of_mem _ hx)
    rw [show adjB (r :: F) = ((!(wordish r) || headNo F) && adjB F) from rfl, Bool.and_eq_true] at hA
    obtain ⟨hA1, hA2⟩ := hA
    simp only [List.flatMap_cons]
    have word : wordish r = true → (k = 0 ∨ k = 3) ∧ headNo F = true := fun hw => by
      rw [hw] at hA1
      refine ⟨?_, ?_⟩
      · rcases hk with hk | hk
        · exact hk
        · simp [headNo, hw] at hk
      · simpa using hA1
    rcases hr with rfl | rfl | rfl | rfl | rfl | rfl | rfl | rfl
    · obtain ⟨h03, hn⟩ := word (by decide)
      have e : partL i 100 = regL i.rd := by simp [partL]
      have e2 : pcOf i 100 = [(1, regL i.rd)] := by simp [pcOf]
      rw [e, e2, cut_reg H.d.1 h03 he, cut_run i H F 1 _ _ hL' hA2 (end1 _) (.inr hn)]
      simp
    · obtain ⟨h03, hn⟩ := word (by decide)
      have e : partL i 115 = regL i.rs1 := by simp [partL]
      have e2 : pcOf i 115 = [(1, regL i.rs1)] := by simp [pcOf]
      rw [e, e2, cut_reg H.s.1 h03 he, cut_run i H F 1 _ _ hL' hA2 (end1 _) (.inr hn)]
      simp
    · obtain ⟨h03, hn⟩ := word (by decide)
      have e : partL i 116 = regL i.rs2 := by simp [partL]
      have e2 : pcOf i 116 = [(1, regL i.rs2)] := by simp [pcOf]
      rw [e, e2, cut_reg H.t.1 h03 he, cut_run i H F 1 _ _ hL' hA2 (end1 _) (.inr hn)]
      simp
    · obtain ⟨h03, hn⟩ := word (by decide)
      have e : partL i 105 = Lib.itoa i.imm := by simp [partL]
      have e2 : pcOf i 105 = [(2, Lib.itoa i.imm)] := by simp [pcOf]
      have e3 : endP 2 (Lib.itoa i.imm) = some [(2, Lib.itoa i.imm)] := by simp [endP, endOk, isInt_itoa _ H.n.1 H.n.2]
      rw [e, e2, cut_num h03 he, cut_run i H F 2 _ _ hL' hA2 e3 (.inr hn)]
      simp
    · obtain ⟨h03, hn⟩ := word (by decide)
      have e : partL i 112 = Lib.itoa i.imm := by simp [partL]
      have e2 : pcOf i 112 = [(2, Lib.itoa i.imm)] := by simp [pcOf]
      have e3 : endP 2 (Lib.itoa i.imm) = some [(2, Lib.itoa i.imm)] := by simp [endP, endOk, isInt_itoa _ H.n.1 H.n.2]
      rw [e, e2, cut_num h03 he, cut_run i H F 2 _ _ hL' hA2 e3 (.inr hn)]
      simp
    · have e : partL i 44 = [44, 32] := by simp [partL]
      have e2 : pcOf i 44 = [(3, [44])] := by simp [pcOf]
      have e3 : ∀ l, cutM ([44, 32] ++ l) k t = (cutM l 0 [32]).map (fun x => ps ++ ([(3, [44])] ++ x)) := fun l => by
        show cutM (44 :: (32 :: l)) k t = _
        rw [cutM_next (goes_sign (.inl rfl)) he (k' := 3) (by decide), cutM_next (goes_sign (.inr (.inr (.inr rfl)))) (end3 _) (k' := 0) (by decide), Option.map_map]
        rfl
      rw [e, e2, e3, cut_run i H F 0 [32] [] hL' hA2 (by rfl) (.inl (.inl rfl))]
      simp
    · have e : partL i 40 = [40] := by simp [partL]
      have e2 : pcOf i 40 = [(3, [40])] := by simp [pcOf]
      have e3 : ∀ l, cutM ([40] ++ l) k t = (cutM l 3 [40]).map (ps ++ ·) := fun l => cutM_next (goes_sign (.inr (.inl rfl))) he (by decide)
      rw [e, e2, e3, cut_run i H F 3 [40] _ hL' hA2 (end3 _) (.inl (.inr rfl))]
      simp
    · have e : partL i 41 = [41] := by simp [partL]
      have e2 : pcOf i 41 = [(3, [41])] := by simp [pcOf]
      have e3 : ∀ l, cutM ([41] ++ l) k t = (cutM l 3 [41]).map (ps ++ ·) := fun l => cutM_next (goes_sign (.inr (.inr (.inl rfl)))) he (by decide)
      rw [e, e2, e3, cut_run i H F 3 [41] _ hL' hA2 (end3 _) (.inl (.inr rfl))]
      simp
end Pn
namespace Pn
open Go
theorem idx_none : ∀ (l : List UInt8) (x : UInt8), (∀ c ∈ l, c ≠ x) → Lib.index l [x] = -1
  | [], x, _ => rfl
  | b :: l, x, h => by
    have h1 : ¬ x = b := fun e => h b List.mem_cons_self e.symm
    have ih := idx_none l x (fun c hc => h c (List.mem_cons_of_mem _ hc))
    simp [Lib.index, h1, ih]
theorem idxB_none : ∀ (l : List UInt8) (x : UInt8), (∀ c ∈ l, c ≠ x) → Lib.indexByte l x = -1
  | [], x, _ => rfl
  | b :: l, x, h => by
    have h1 : ¬ b = x := h b List.mem_cons_self
    have ih := idxB_none l x (fun c hc => h c (List.mem_cons_of_mem _ hc))
    simp [Lib.indexByte, h1, ih]
theorem preg_regL {n : Int} (h0 : 0 ≤ n) (h1 : n ≤ 31) : preg (regL n) = some n := by
  have e := atoi_itoa n (by omega) (by omega)
  unfold preg
  have a : Lib.hasPrefix (regL n) [120] = true := by simp [Lib.hasPrefix, regL]
  have b : Lib.trimPrefix (regL n) [120] = Lib.itoa n := by simp [Lib.trimPrefix, Lib.hasPrefix, regL]
  rw [if_pos a, b, e]
  simp [h1]
theorem pnum_itoa {n : Int} (h0 : -10000000 < n) (h1 : n < 10000000) : pnum 2 (Lib.itoa n) = some n := by
  unfold pnum
  rw [if_pos rfl, atoi_itoa n h0 h1]
def nameB (l : List UInt8) : Bool := match l with
  | [] => false
  | c :: r => smallB c.toNat && r.all fun x => goes 1 x.toNat
theorem name_ok : ∀ k, k < 64 → nameB (row k).name = true := by decide
theorem names0 : ((List.range 64).all fun j => (List.range 64).all fun k => !(decide (j < k)) || !((row j).name == (row k).name)) = true := by decide +kernel
theorem names_ne {j k : Nat} (hk : k < 64) (hjk : j < k) : ((row j).name == (row k).name) = false := by
  have h := names0
  rw [List.all_eq_true] at h
  have h1 := h j (by simp; omega)
  rw [List.all_eq_true] at h1
  have h2 := h1 k (by simp; omega)
  simp [hjk] at h2
  simpa using h2
theorem cut_name (nm l : List UInt8) (h : nameB nm = true) : cutM (nm ++ l) 0 [] = cutM l 1 nm := by
  cases nm with
  | nil => cases h
  | cons c r =>
    simp only [nameB, Bool.and_eq_true, List.all_eq_true] at h
    have hb : beg c.toNat = some 1 := by simp [beg, h.1]
    rw [cut_tok (k := 0) (ps := []) (goes_03 (.inl rfl) _) rfl hb h.2]
    simp
theorem cut_text (k : Nat) (hk : k < 64) (i : Ins) (H : Bnd i) (hko : kindsOk (row k).kind) :
    cutM ((row k).name ++ behind (row k).kind (regL i.rd) (regL i.rs1) (regL i.rs2) (Lib.itoa i.imm)) 0 [] = some ((1, (row k).name) :: (shp (row k).kind).flatMap (pcOf i)) := by
  have hadj : adjB (shp (row k).kind) = true := by rcases hko with h | h | h | h | h | h | h | h | h | h <;> rw [h] <;> decide
  rw [cut_name _ _ (name_ok k hk), ← shp_behind hko i]
  split
  · rename_i h
    rw [h]
    simp [cutM, end1]
  · rw [cutM_next (goes_sign (.inr (.inr (.inr rfl)))) (end1 _) (k' := 0) (by decide), cut_run i H _ 0 [32] [] (shp_lett hko) hadj rfl (.inl (.inl rfl))]
    simp
def plainC (c : UInt8) : Prop := c ≠ 10 ∧ c ≠ 35
theorem plain_dig {c : UInt8} (h : 48 ≤ c.toNat ∧ c.toNat ≤ 57) : plainC c := ⟨fun e => by rw [e] at h; revert h; decide, fun e => by rw [e] at h; revert h; decide⟩
theorem plain_itoa (n : Int) : ∀ c ∈ Lib.itoa n, plainC c := by
  obtain ⟨a, r, e, ha, hr⟩ := itoa_cons n
  rw [e]
  intro c hc
  rcases List.mem_cons.1 hc with rfl | hc
  · rcases ha with rfl | h
    · exact ⟨by decide, by decide⟩
    · exact plain_dig h
  · exact plain_dig (hr c hc)
theorem plain_regL (n : Int) : ∀ c ∈ regL n, plainC c := by
  intro c hc
  rcases List.mem_cons.1 hc with rfl | hc
  · exact ⟨by decide, by decide⟩
  · exact plain_itoa n c hc
theorem plain_part (i : Ins) (r : UInt8) (h : Lett r) : ∀ c ∈ partL i r, plainC c := by
  intro c hc
  rcases h with rfl | rfl | rfl | rfl | rfl | rfl | rfl | rfl
  · exact plain_regL _ c (by simpa [partL] using hc)
  · exact plain_regL _ c (by simpa [partL] using hc)
  · exact plain_regL _ c (by simpa [partL] using hc)
  · exact plain_itoa _ c (by simpa [partL] using hc)
  · exact plain_itoa _ c (by simpa [partL] using hc)
  · simp [partL] at hc
    rcases hc with rfl | rfl <;> exact ⟨by decide, by decide⟩
  · simp [partL] at hc
    rw [hc]; exact ⟨by decide, by decide⟩
  · simp [partL] at hc
    rw [hc]; exact ⟨by decide, by decide⟩
theorem names_plain : ∀ k, k < 64 → ((row k).name.all fun c => c != 10 && c != 35) = true := by decide
theorem plain_text (k : Nat) (hk : k < 64) (i : Ins) (hko : kindsOk (row k).kind) : ∀ c ∈ (row k).name ++ behind (row k).kind (regL i.rd) (regL i.rs1) (regL i.rs2) (Lib.itoa i.imm), plainC c := by
  rw [← shp_behind hko i]
  intro c hc
  rcases List.mem_append.1 hc with hc | hc
  · have := names_plain k hk
    rw [List.all_eq_true] at this
    simpa [plainC] using this c hc
  · split at hc
    · cases hc
    · rcases List.mem_cons.1 hc with rfl | hc
      · exact ⟨by decide, by decide⟩
      · obtain ⟨r, hr, hc⟩ := List.mem_flatMap.1 hc
        exact plain_part i r (shp_lett hko r hr) c hc
theorem itoa_le (n : Int) (h0 : -10000000 < n) (h1 : n < 10000000) : (Lib.itoa n).length ≤ 8 := by
  by_cases hn : n < 0
  · obtain ⟨u, hu⟩ : ∃ u : Nat, n = -(u : Int) := ⟨n.natAbs, by omega⟩
    subst hu
    rw [itoa_ng u (by omega)]
    have := dec_len u (by omega)
    simp; omega
  · obtain ⟨u, hu⟩ : ∃ u : Nat, n = (u : Int) := ⟨n.toNat, by omega⟩
    subst hu
    rw [itoa_nn]
    have := dec_len u (by omega)
    omega
theorem part_le (i : Ins) (H : Bnd i) (r : UInt8) (h : Lett r) : (partL i r).length ≤ 9 := by
  have a1 := itoa_le i.rd (by have := H.d; omega) (by have := H.d; omega)
  have a2 := itoa_le i.rs1 (by have := H.s; omega) (by have := H.s; omega)
  have a3 := itoa_le i.rs2 (by have := H.t; omega) (by have := H.t; omega)
  have a4 := itoa_le i.imm H.n.1 H.n.2
  rcases h with rfl | rfl | rfl | rfl | rfl | rfl | rfl | rfl <;> simp [partL, regL] <;> omega
theorem flat_le (i : Ins) (H : Bnd i) : ∀ F : List UInt8, (∀ r ∈ F, Lett r) → (F.flatMap (partL i)).length ≤ 9 * F.length
  | [], _ => by simp
  | r :: F, h => by
    have h1 := part_le i H r (h r List.mem_cons_self)
    have h2 := flat_le i H F (fun x hx => h x (List.mem_cons_of_mem _ hx))
    simp only [List.flatMap_cons, List.length_append, List.length_cons]
    omega
end Pn
namespace Pn
open Go
theorem opc_low : ∀ k, k < 64 → (row k).opc % 4 = 3 := by decide
structure WordOf (k : Nat) (rd rs1 rs2 imm w : Int) : Prop where
  lo : 0 ≤ w
  hi : w < 4294967296
  m4 : w % 4 = 3
  op : w % 128 = (row k).opc
  de : decIns k w = ⟨k + 1, rd, rs1, rs2, imm⟩
theorem back_S {imm x : Int} (h : -2048 ≤ imm ∧ imm ≤ 2047) (hs : (2048 ≤ imm / 32 % 128 * 32 + imm % 32 ∧ x = imm / 32 % 128 * 32 + imm % 32 - 4096) ∨ (imm / 32 % 128 * 32 + imm % 32 < 2048 ∧ x = imm / 32 % 128 * 32 + imm % 32)) : x = imm := by
  have e : imm / 32 % 128 * 32 + imm % 32 = imm % 4096 := by omega
  rw [e] at hs
  omega
theorem back_B {imm x : Int} (h : -4096 ≤ imm ∧ imm ≤ 4094) (h2 : imm % 2 = 0) (hs : (4096 ≤ imm / 4096 % 2 * 4096 + imm / 2048 % 2 * 2048 + imm / 32 % 64 * 32 + imm / 2 % 16 * 2 ∧ x = imm / 4096 % 2 * 4096 + imm / 2048 % 2 * 2048 + imm / 32 % 64 * 32 + imm / 2 % 16 * 2 - 8192) ∨ (imm / 4096 % 2 * 4096 + imm / 2048 % 2 * 2048 + imm / 32 % 64 * 32 + imm / 2 % 16 * 2 < 4096 ∧ x = imm / 4096 % 2 * 4096 + imm / 2048 % 2 * 2048 + imm / 32 % 64 * 32 + imm / 2 % 16 * 2)) : x = imm := by
  have e : imm / 4096 % 2 * 4096 + imm / 2048 % 2 * 2048 + imm / 32 % 64 * 32 + imm / 2 % 16 * 2 = imm % 8192 := by
    have e1 : imm / 2 % 16 * 2 = imm % 32 := by omega
    have e2 : imm / 32 % 64 * 32 + imm % 32 = imm % 2048 := by omega
    have e3 : imm / 2048 % 2 * 2048 + imm % 2048 = imm % 4096 := by omega
    have e4 : imm / 4096 % 2 * 4096 + imm % 4096 = imm % 8192 := by omega
    omega
  rw [e] at hs
  omega
theorem back_J {imm x : Int} (h : -1048576 ≤ imm ∧ imm ≤ 1048574) (h2 : imm % 2 = 0) (hs : (1048576 ≤ imm / 1048576 % 2 * 1048576 + imm / 4096 % 256 * 4096 + imm / 2048 % 2 * 2048 + imm / 2 % 1024 * 2 ∧ x = imm / 1048576 % 2 * 1048576 + imm / 4096 % 256 * 4096 + imm / 2048 % 2 * 2048 + imm / 2 % 1024 * 2 - 2097152) ∨ (imm / 1048576 % 2 * 1048576 + imm / 4096 % 256 * 4096 + imm / 2048 % 2 * 2048 + imm / 2 % 1024 * 2 < 1048576 ∧ x = imm / 1048576 % 2 * 1048576 + imm / 4096 % 256 * 4096 + imm / 2048 % 2 * 2048 + imm / 2 % 1024 * 2)) : x = imm := by
  have e : imm / 1048576 % 2 * 1048576 + imm / 4096 % 256 * 4096 + imm / 2048 % 2 * 2048 + imm / 2 % 1024 * 2 = imm % 2097152 := by
    have e1 : imm / 2 % 1024 * 2 = imm % 2048 := by omega
    have e2 : imm / 2048 % 2 * 2048 + imm % 2048 = imm % 4096 := by omega
    have e3 : imm / 4096 % 256 * 4096 + imm % 4096 = imm % 1048576 := by omega
    have e4 : imm / 1048576 % 2 * 1048576 + imm % 1048576 = imm % 2097152 := by omega
    omega
  rw [e] at hs
  omega
theorem word_R {k : Nat} {rd rs1 rs2 imm : Int} (hk : k < 64) (hr : right ⟨k + 1, rd, rs1, rs2, imm⟩ = true) (h : (row k).kind = 82) : WordOf k rd rs1 rs2 imm (encR k rd rs1 rs2 imm) := by
  have hb := row_bd k hk
  have ho := opc_low k hk
  have hg := row_g0 k hk
  rw [right_succ _ _ _ _ _ hk, h] at hr
  rw [h] at hg
  simp [has, register, between, fitsImm] at hr hg
  rw [encR_R _ _ _ _ _ h]
  have hd := fun w => decIns_R k w h
  simp only [be_11_7, be_19_15, be_24_20] at hd
  generalize hdd : decIns k = D at *
  generalize hoe : (row k).opc = o at *; generalize (row k).f = f at *; generalize (row k).g = g at *
  refine ⟨by omega, by omega, by omega, by rw [hoe]; omega, ?_⟩
  rw [hdd, hd]
  simp only [Ins.mk.injEq, true_and]
  exact ⟨by omega, by omega, by omega, by omega⟩
theorem word_I {k : Nat} {rd rs1 rs2 imm : Int} (hk : k < 64) (hr : right ⟨k + 1, rd, rs1, rs2, imm⟩ = true) (h : (row k).kind = 73) : WordOf k rd rs1 rs2 imm (encR k rd rs1 rs2 imm) := by
  have hb := row_bd k hk
  have ho := opc_low k hk
  have hg := row_g0 k hk
  rw [right_succ _ _ _ _ _ hk, h] at hr
  rw [h] at hg
  simp [has, register, between, fitsImm] at hr hg
  rw [encR_I _ _ _ _ _ h]
  simp only [be_11_0]
  have hd := fun w => decIns_I k w h
  simp only [be_11_7, be_19_15, be_31_20] at hd
  generalize hdd : decIns k = D at *
  generalize hoe : (row k).opc = o at *; generalize (row k).f = f at *; generalize (row k).g = g at *
  refine ⟨by omega, by omega, by omega, by rw [hoe]; omega, ?_⟩
  rw [hdd, hd]
  simp only [Ins.mk.injEq, true_and]
  have q0 : (o + rd * 128 + rs1 * 32768 + rs2 * 1048576 + f * 4096 + imm % 4096 * 1048576) / 1048576 % 4096 = imm % 4096 := by omega
  rw [q0]
  have hs := sg_12 (imm % 4096)
  generalize signd (imm % 4096) _ = x at *
  exact ⟨by omega, by omega, by omega, by omega⟩
theorem word_L {k : Nat} {rd rs1 rs2 imm : Int} (hk : k < 64) (hr : right ⟨k + 1, rd, rs1, rs2, imm⟩ = true) (h : (row k).kind = 76) : WordOf k rd rs1 rs2 imm (encR k rd rs1 rs2 imm) := by
  have hb := row_bd k hk
  have ho := opc_low k hk
  have hg := row_g0 k hk
  rw [right_succ _ _ _ _ _ hk, h] at hr
  rw [h] at hg
  simp [has, register, between, fitsImm] at hr hg
  rw [encR_L _ _ _ _ _ h]
  simp only [be_11_0]
  have hd := fun w => decIns_L k w h
  simp only [be_11_7, be_19_15, be_31_20] at hd
  generalize hdd : decIns k = D at *
  generalize hoe : (row k).opc = o at *; generalize (row k).f = f at *; generalize (row k).g = g at *
  refine ⟨by omega, by omega, by omega, by rw [hoe]; omega, ?_⟩
  rw [hdd, hd]
  simp only [Ins.mk.injEq, true_and]
  have q0 : (o + rd * 128 + rs1 * 32768 + rs2 * 1048576 + f * 4096 + imm % 4096 * 1048576) / 1048576 % 4096 = imm % 4096 := by omega
  rw [q0]
  have hs := sg_12 (imm % 4096)
  generalize signd (imm % 4096) _ = x at *
  exact ⟨by omega, by omega, by omega, by omega⟩
theorem word_H {k : Nat} {rd rs1 rs2 imm : Int} (hk : k < 64) (hr : right ⟨k + 1, rd, rs1, rs2, imm⟩ = true) (h : (row k).kind = 72) : WordOf k rd rs1 rs2 imm (encR k rd rs1 rs2 imm) := by
  have hb := row_bd k hk
  have ho := opc_low k hk
  have hg := row_g0 k hk
  rw [right_succ _ _ _ _ _ hk, h] at hr
  rw [h] at hg
  simp [has, register, between, fitsImm] at hr hg
  rw [encR_H _ _ _ _ _ h]
  have hd := fun w => decIns_H k w h
  simp only [be_11_7, be_19_15, be_25_20] at hd
  generalize hdd : decIns k = D at *
  generalize hoe : (row k).opc = o at *; generalize (row k).f = f at *; generalize (row k).g = g at *
  refine ⟨by omega, by omega, by omega, by rw [hoe]; omega, ?_⟩
  rw [hdd, hd]
  simp only [Ins.mk.injEq, true_and]
  exact ⟨by omega, by omega, by omega, by omega⟩
theorem word_W {k : Nat} {rd rs1 rs2 imm : Int} (hk : k < 64) (hr : right ⟨k + 1, rd, rs1, rs2, imm⟩ = true) (h : (row k).kind = 87) : WordOf k rd rs1 rs2 imm (encR k rd rs1 rs2 imm) := by
  have hb := row_bd k hk
  have ho := opc_low k hk
  have hg := row_g0 k hk
  rw [right_succ _ _ _ _ _ hk, h] at hr
  rw [h] at hg
  simp [has, register, between, fitsImm] at hr hg
  rw [encR_W _ _ _ _ _ h]
  have hd := fun w => decIns_W k w h
  simp only [be_11_7, be_19_15, be_24_20] at hd
  generalize hdd : decIns k = D at *
  generalize hoe : (row k).opc = o at *; generalize (row k).f = f at *; generalize (row k).g = g at *
  refine ⟨by omega, by omega, by omega, by rw [hoe]; omega, ?_⟩
  rw [hdd, hd]
  simp only [Ins.mk.injEq, true_and]
  exact ⟨by omega, by omega, by omega, by omega⟩
theorem word_S {k : Nat} {rd rs1 rs2 imm : Int} (hk : k < 64) (hr : right ⟨k + 1, rd, rs1, rs2, imm⟩ = true) (h : (row k).kind = 83) : WordOf k rd rs1 rs2 imm (encR k rd rs1 rs2 imm) := by
  have hb := row_bd k hk
  have ho := opc_low k hk
  have hg := row_g0 k hk
  rw [right_succ _ _ _ _ _ hk, h] at hr
  rw [h] at hg
  simp [has, register, between, fitsImm] at hr hg
  rw [encR_S _ _ _ _ _ h]
  simp only [be_11_5, be_4_0]
  have hd := fun w => decIns_S k w h
  simp only [be_19_15, be_24_20, be_31_25, be_11_7] at hd
  generalize hdd : decIns k = D at *
  generalize hoe : (row k).opc = o at *; generalize (row k).f = f at *; generalize (row k).g = g at *
  have hs := sg_12 (imm / 32 % 128 * 32 + imm % 32)
  generalize hx : signd (imm / 32 % 128 * 32 + imm % 32) _ = x at hs
  have hxe : x = imm := back_S (by omega) hs
  rw [hxe] at hx
  clear hs hxe
  have bA : 0 ≤ imm / 32 % 128 ∧ imm / 32 % 128 ≤ 127 := by omega
  have bC : 0 ≤ imm % 32 ∧ imm % 32 ≤ 31 := by omega
  generalize imm / 32 % 128 = A at *
  generalize imm % 32 = C at *
  refine ⟨by omega, by omega, by omega, by rw [hoe]; omega, ?_⟩
  rw [hdd, hd]
  simp only [Ins.mk.injEq, true_and]
  have q0 : (o + rd * 128 + rs1 * 32768 + rs2 * 1048576 + f * 4096 + A * 33554432 + C * 128) / 33554432 % 128 = A := by omega
  have q1 : (o + rd * 128 + rs1 * 32768 + rs2 * 1048576 + f * 4096 + A * 33554432 + C * 128) / 128 % 32 = C := by omega
  rw [q0, q1, hx]
  exact ⟨by omega, by omega, by omega, rfl⟩
theorem word_B {k : Nat} {rd rs1 rs2 imm : Int} (hk : k < 64) (hr : right ⟨k + 1, rd, rs1, rs2, imm⟩ = true) (h : (row k).kind = 66) : WordOf k rd rs1 rs2 imm (encR k rd rs1 rs2 imm) := by
  have hb := row_bd k hk
  have ho := opc_low k hk
  have hg := row_g0 k hk
  rw [right_succ _ _ _ _ _ hk, h] at hr
  rw [h] at hg
  simp [has, register, between, fitsImm] at hr hg
  rw [encR_B _ _ _ _ _ h]
  simp only [be_12_12, be_10_5, be_4_1, be_11_11]
  have hd := fun w => decIns_B k w h
  simp only [be_19_15, be_24_20, be_31_31, be_7_7, be_30_25, be_11_8] at hd
  generalize hdd : decIns k = D at *
  generalize hoe : (row k).opc = o at *; generalize (row k).f = f at *; generalize (row k).g = g at *
  have hs := sg_13 (imm / 4096 % 2 * 4096 + imm / 2048 % 2 * 2048 + imm / 32 % 64 * 32 + imm / 2 % 16 * 2)
  generalize hx : signd (imm / 4096 % 2 * 4096 + imm / 2048 % 2 * 2048 + imm / 32 % 64 * 32 + imm / 2 % 16 * 2) _ = x at hs
  have h2 : imm % 2 = 0 := by
    have ht : imm.tmod 2 = 0 := by simp only [hr]
    rw [Int.tmod_eq_emod] at ht
    split at ht <;> omega
  have hxe : x = imm := back_B (by omega) h2 hs
  rw [hxe] at hx
  clear hs hxe
  have bA : 0 ≤ imm / 4096 % 2 ∧ imm / 4096 % 2 ≤ 1 := by omega
  have bC : 0 ≤ imm / 32 % 64 ∧ imm / 32 % 64 ≤ 63 := by omega
  have bE : 0 ≤ imm / 2 % 16 ∧ imm / 2 % 16 ≤ 15 := by omega
  have bF : 0 ≤ imm / 2048 % 2 ∧ imm / 2048 % 2 ≤ 1 := by omega
  generalize imm / 4096 % 2 = A at *
  generalize imm / 32 % 64 = C at *
  generalize imm / 2 % 16 = E at *
  generalize imm / 2048 % 2 = F at *
  refine ⟨by omega, by omega, by omega, by rw [hoe]; omega, ?_⟩
  rw [hdd, hd]
  simp only [Ins.mk.injEq, true_and]
  have q0 : (o + rd * 128 + rs1 * 32768 + rs2 * 1048576 + f * 4096 + A * 2147483648 + C * 33554432 + E * 256 + F * 128) / 2147483648 % 2 = A := by omega
  have q1 : (o + rd * 128 + rs1 * 32768 + rs2 * 1048576 + f * 4096 + A * 2147483648 + C * 33554432 + E * 256 + F * 128) / 128 % 2 = F := by omega
  have q2 : (o + rd * 128 + rs1 * 32768 + rs2 * 1048576 + f * 4096 + A * 2147483648 + C * 33554432 + E * 256 + F * 128) / 33554432 % 64 = C := by omega
  have q3 : (o + rd * 128 + rs1 * 32768 + rs2 * 1048576 + f * 4096 + A * 2147483648 + C * 33554432 + E * 256 + F * 128) / 256 % 16 = E := by omega
  rw [q0, q1, q2, q3, hx]
  exact ⟨by omega, by omega, by omega, rfl⟩
theorem word_U {k : Nat} {rd rs1 rs2 imm : Int} (hk : k < 64) (hr : right ⟨k + 1, rd, rs1, rs2, imm⟩ = true) (h : (row k).kind = 85) : WordOf k rd rs1 rs2 imm (encR k rd rs1 rs2 imm) := by
  have hb := row_bd k hk
  have ho := opc_low k hk
  have hg := row_g0 k hk
  rw [right_succ _ _ _ _ _ hk, h] at hr
  rw [h] at hg
  simp [has, register, between, fitsImm] at hr hg
  rw [encR_U _ _ _ _ _ h]
  simp only [be_19_0]
  have hd := fun w => decIns_U k w h
  simp only [be_11_7, be_31_12] at hd
  generalize hdd : decIns k = D at *
  generalize hoe : (row k).opc = o at *; generalize (row k).f = f at *; generalize (row k).g = g at *
  refine ⟨by omega, by omega, by omega, by rw [hoe]; omega, ?_⟩
  rw [hdd, hd]
  simp only [Ins.mk.injEq, true_and]
  have q0 : (o + rd * 128 + rs1 * 32768 + rs2 * 1048576 + imm % 1048576 * 4096) / 4096 % 1048576 = imm % 1048576 := by omega
  rw [q0]
  have hs := sg_20 (imm % 1048576)
  generalize signd (imm % 1048576) _ = x at *
  exact ⟨by omega, by omega, by omega, by omega⟩
theorem word_J {k : Nat} {rd rs1 rs2 imm : Int} (hk : k < 64) (hr : right ⟨k + 1, rd, rs1, rs2, imm⟩ = true) (h : (row k).kind = 74) : WordOf k rd rs1 rs2 imm (encR k rd rs1 rs2 imm) := by
  have hb := row_bd k hk
  have ho := opc_low k hk
  have hg := row_g0 k hk
  rw [right_succ _ _ _ _ _ hk, h] at hr
  rw [h] at hg
  simp [has, register, between, fitsImm] at hr hg
  rw [encR_J _ _ _ _ _ h]
  simp only [be_20_20, be_10_1, be_11_11, be_19_12]
  have hd := fun w => decIns_J k w h
  simp only [be_11_7, be_31_31, be_19_12, be_20_20, be_30_21] at hd
  generalize hdd : decIns k = D at *
  generalize hoe : (row k).opc = o at *; generalize (row k).f = f at *; generalize (row k).g = g at *
  have hs := sg_21 (imm / 1048576 % 2 * 1048576 + imm / 4096 % 256 * 4096 + imm / 2048 % 2 * 2048 + imm / 2 % 1024 * 2)
  generalize hx : signd (imm / 1048576 % 2 * 1048576 + imm / 4096 % 256 * 4096 + imm / 2048 % 2 * 2048 + imm / 2 % 1024 * 2) _ = x at hs
  have h2 : imm % 2 = 0 := by
    have ht : imm.tmod 2 = 0 := by simp only [hr]
    rw [Int.tmod_eq_emod] at ht
    split at ht <;> omega
  have hxe : x = imm := back_J (by omega) h2 hs
  rw [hxe] at hx
  clear hs hxe
  have bA : 0 ≤ imm / 1048576 % 2 ∧ imm / 1048576 % 2 ≤ 1 := by omega
  have bC : 0 ≤ imm / 2 % 1024 ∧ imm / 2 % 1024 ≤ 1023 := by omega
  have bE : 0 ≤ imm / 2048 % 2 ∧ imm / 2048 % 2 ≤ 1 := by omega
  have bF : 0 ≤ imm / 4096 % 256 ∧ imm / 4096 % 256 ≤ 255 := by omega
  generalize imm / 1048576 % 2 = A at *
  generalize imm / 2 % 1024 = C at *
  generalize imm / 2048 % 2 = E at *
  generalize imm / 4096 % 256 = F at *
  refine ⟨by omega, by omega, by omega, by rw [hoe]; omega, ?_⟩
  rw [hdd, hd]
  simp only [Ins.mk.injEq, true_and]
  have q0 : (o + rd * 128 + rs1 * 32768 + rs2 * 1048576 + A * 2147483648 + C * 2097152 + E * 1048576 + F * 4096) / 2147483648 % 2 = A := by omega
  have q1 : (o + rd * 128 + rs1 * 32768 + rs2 * 1048576 + A * 2147483648 + C * 2097152 + E * 1048576 + F * 4096) / 4096 % 256 = F := by omega
  have q2 : (o + rd * 128 + rs1 * 32768 + rs2 * 1048576 + A * 2147483648 + C * 2097152 + E * 1048576 + F * 4096) / 1048576 % 2 = E := by omega
  have q3 : (o + rd * 128 + rs1 * 32768 + rs2 * 1048576 + A * 2147483648 + C * 2097152 + E * 1048576 + F * 4096) / 2097152 % 1024 = C := by omega
  rw [q0, q1, q2, q3, hx]
  exact ⟨by omega, by omega, by omega, rfl⟩
theorem word_N {k : Nat} {rd rs1 rs2 imm : Int} (hk : k < 64) (hr : right ⟨k + 1, rd, rs1, rs2, imm⟩ = true) (h : (row k).kind = 78) : WordOf k rd rs1 rs2 imm (encR k rd rs1 rs2 imm) := by
  have hb := row_bd k hk
  have ho := opc_low k hk
  have hg := row_g0 k hk
  rw [right_succ _ _ _ _ _ hk, h] at hr
  rw [h] at hg
  simp [has, register, fitsImm] at hr hg
  rw [encR_N _ _ _ _ _ h]
  have hd := fun w => decIns_N k w h
  generalize hdd : decIns k = D at *
  generalize hoe : (row k).opc = o at *; generalize (row k).f = f at *; generalize (row k).g = g at *
  refine ⟨by omega, by omega, by omega, by rw [hoe]; omega, ?_⟩
  rw [hdd, hd]
  simp only [Ins.mk.injEq, true_and]
  exact ⟨by omega, by omega, by omega, by omega⟩
end Pn
namespace Pn
open Go
theorem word_of {k : Nat} {rd rs1 rs2 imm : Int} (hk : k < 64) (hr : right ⟨k + 1, rd, rs1, rs2, imm⟩ = true) : WordOf k rd rs1 rs2 imm (encR k rd rs1 rs2 imm) := by
  rcases kinds k hk with h | h | h | h | h | h | h | h | h | h
  · exact word_R hk hr h
  · exact word_I hk hr h
  · exact word_L hk hr h
  · exact word_H hk hr h
  · exact word_W hk hr h
  · exact word_S hk hr h
  · exact word_B hk hr h
  · exact word_U hk hr h
  · exact word_J hk hr h
  · exact word_N hk hr h
def mN (k : Nat) : Nat := (fixm (row k).kind).toNat
def xN (k : Nat) : Nat := (fixw (row k).opc (row k).f (row k).g (2 ^ gpos (row k).kind)).toNat
theorem uniq : ∀ j, j < 64 → ∀ k, k < 64 → j ≠ k → ¬ (xN j &&& mN k = xN k &&& mN j) := by decide +kernel
theorem mN_bd : ∀ k, k < 64 → mN k < 2 ^ 62 ∧ 0 ≤ fixm (row k).kind := by decide +kernel
theorem fits_nat (n k : Nat) (hn : n < 4294967296) (hk : k < 64) (h : fitsW k n = true) : n &&& mN k = xN k := by
  unfold fitsW at h
  rw [Bool.and_eq_true, decide_eq_true_eq, decide_eq_true_eq] at h
  have hm := mN_bd k hk
  have e : fixm (row k).kind = ((mN k : Nat) : Int) := by unfold mN; omega
  have h2 := h.2
  rw [e] at h2
  have ha : andz n (mN k : Int) = ((n &&& mN k : Nat) : Int) := (bits_nat .i64 62 (by decide) wraps_i64 n (mN k) (by omega) hm.1).1
  rw [ha] at h2
  unfold xN
  rw [← h2]
  simp
theorem hit_uniq {w : Int} {j k : Nat} (h0 : 0 ≤ w) (h1 : w < 4294967296) (hj : j < 64) (hk : k < 64) (hhj : decHit w j = true) (hhk : decHit w k = true) : j = k := by
  obtain ⟨n, rfl⟩ := Int.eq_ofNat_of_zero_le h0
  rw [← fits_hit _ _ hj h0 h1] at hhj
  rw [← fits_hit _ _ hk h0 h1] at hhk
  have ej := fits_nat n j (by omega) hj hhj
  have ek := fits_nat n k (by omega) hk hhk
  by_cases hjk : j = k
  · exact hjk
  · refine absurd ?_ (uniq j hj k hk hjk)
    rw [← ej, ← ek, Nat.and_assoc, Nat.and_assoc, Nat.and_comm (mN j)]
theorem right_op {i : Ins} (h : right i = true) : ∃ k : Nat, k < 64 ∧ i.op = k + 1 := by
  by_cases hb : 1 ≤ i.op ∧ i.op ≤ 64
  · exact ⟨(i.op - 1).toNat, by omega, by omega⟩
  · rw [right_out i hb] at h; cases h
theorem dec_enc {i : Ins} (h : right i = true) : dec (enc i).1 = (i, 0) ∧ (enc i).2 = 0 ∧ (enc i).1 % 4 = 3 ∧ 0 ≤ (enc i).1 ∧ (enc i).1 < 4294967296 := by
  obtain ⟨k, hk, ho⟩ := right_op h
  obtain ⟨op, rd, rs1, rs2, imm⟩ := i
  simp only at ho
  subst ho
  have hw := word_of hk h
  rw [enc_yes h]
  refine ⟨?_, rfl, hw.m4, hw.lo, hw.hi⟩
  have hh : decHit (encR k rd rs1 rs2 imm) k = true := by
    unfold decHit
    rw [hw.de, enc_yes h, be_6_0, hw.op]
    simp
  rw [dec_hit hw.lo hw.hi hk (fun j hj => ?_) hh, hw.de]
  by_cases hc : decHit (encR k rd rs1 rs2 imm) j = true
  · have := hit_uniq hw.lo hw.hi (by omega) hk hc hh; omega
  · simpa using hc
end Pn
namespace Pn
open Go
theorem bnd_of {k : Nat} {rd rs1 rs2 imm : Int} (hk : k < 64) (h : right ⟨k + 1, rd, rs1, rs2, imm⟩ = true) : Bnd ⟨k + 1, rd, rs1, rs2, imm⟩ := by
  obtain ⟨a, b, c, d⟩ := right_bd hk h
  exact ⟨a, b, c, by simp only; omega⟩
theorem isNm_2 (t : List UInt8) : isNm 2 t = false := by simp [isNm]
theorem shape_back {k : Nat} {rd rs1 rs2 imm : Int} (hk : k < 64) (h : right ⟨k + 1, rd, rs1, rs2, imm⟩ = true) :
    pshape (shp (row k).kind) ((shp (row k).kind).flatMap (pcOf ⟨k + 1, rd, rs1, rs2, imm⟩)) ⟨k + 1, 0, 0, 0, 0⟩ [] = some (⟨k + 1, rd, rs1, rs2, imm⟩, []) := by
  have H := bnd_of hk h
  have e1 := preg_regL H.d.1 H.d.2
  have e2 := preg_regL H.s.1 H.s.2
  have e3 := preg_regL H.t.1 H.t.2
  have e4 := pnum_itoa H.n.1 H.n.2
  simp only at e1 e2 e3 e4
  rw [right_succ _ _ _ _ _ hk] at h
  rcases kinds_ok k hk with hd | hd | hd | hd | hd | hd | hd | hd | hd | hd <;> rw [hd] at h ⊢ <;> simp [has, register, between, fitsImm] at h <;> simp [shp, pcOf, pshape, pstep, isNm_2, e1, e2, e3, e4] <;> omega
theorem name_find {k : Nat} (hk : k < 64) : (List.range 64).find? (byName ⟨(row k).name.toArray⟩) = some k := by
  refine find_range _ 64 k hk (fun j hj => ?_) ?_
  · have := names_ne hk hj
    unfold byName
    simpa [ByteArray.toList_eq] using this
  · unfold byName
    simp
end Pn
