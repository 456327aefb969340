import Derived.Test.YtbmcofdodfcnnaaGreatDoorPF
namespace Pn
open Go
theorem tw_app {P : UInt8 → Bool} (h : P 35 = false) {rest : List UInt8} (hr : rest = [] ∨ ∃ q, rest = 35 :: q) : ∀ L : List UInt8, (L ++ rest).takeWhile P = L.takeWhile P
  | [] => by rcases hr with rfl | ⟨q, rfl⟩ <;> simp [h]
  | c :: L => by
    by_cases hc : P c = true
    · simp [hc, tw_app h hr L]
    · simp [hc]
theorem head_app {f : UInt8 → Bool} (h : f 35 = false) {rest : List UInt8} (hr : rest = [] ∨ ∃ q, rest = 35 :: q) (L : List UInt8) : ((L ++ rest).head?.map f = some true) ↔ (L.head?.map f = some true) := by
  cases L with
  | nil => rcases hr with rfl | ⟨q, rfl⟩ <;> simp [h]
  | cons c L => simp
theorem tw_len (P : UInt8 → Bool) (L : List UInt8) : (L.takeWhile P).length ≤ L.length := List.Sublist.length_le (List.takeWhile_sublist _)
theorem tok1_app {rest : List UInt8} (hr : rest = [] ∨ ∃ q, rest = 35 :: q) (c : UInt8) (L : List UInt8) : tok1 c (L ++ rest) = tok1 c L := by
  have h1 := tw_app (P := alnum) rfl hr L
  have h2 := tw_app (P := dig) rfl hr L
  have h3 := head_app (f := dig) rfl hr L
  have h4 := head_app (f := fun d => smallB d.toNat) rfl hr (L.drop (L.takeWhile dig).length)
  have h5 : (L ++ rest).drop (L.takeWhile dig).length = L.drop (L.takeWhile dig).length ++ rest := List.drop_append_of_le_length (tw_len _ _)
  unfold tok1
  simp only [h1, h2, h3, h5, h4]
theorem tok1_len {c : UInt8} {r : List UInt8} {k v : Int} {n : Nat} (h : tok1 c r = some (k, v, n)) : n ≤ r.length := by
  unfold tok1 at h
  have h1 := tw_len alnum r
  have h2 := tw_len dig r
  repeat' split at h
  all_goals first | (cases h; done) | (simp only [Option.some.injEq, Prod.mk.injEq] at h; omega)
theorem toks_app {rest : List UInt8} (hr : rest = [] ∨ ∃ q, rest = 35 :: q) : ∀ (n : Nat) (L : List UInt8) (b : Bool), L.length ≤ n → toks (L ++ rest) b = toks L b
  | n, [], b, _ => by
    rcases hr with rfl | ⟨q, rfl⟩
    · rfl
    · simp only [List.nil_append]; rw [toks_hash 35 q b rfl, toks_nil]
  | 0, c :: L, b, h => by simp at h
  | n + 1, c :: L, b, h => by
    have hL : L.length ≤ n := by simpa using h
    by_cases h35 : c = 35
    · rw [List.cons_append, toks_hash _ _ _ h35, toks_hash _ _ _ h35]
    · by_cases hb : c = 32 ∨ c = 9
      · rw [List.cons_append, toks_blank _ _ _ hb, toks_blank _ _ _ hb, toks_app hr n L true hL]
      · cases ht : tok1 c L with
        | none => rw [List.cons_append, toks_none _ _ _ h35 hb (by rw [tok1_app hr]; exact ht), toks_none _ _ _ h35 hb ht]
        | some x =>
          obtain ⟨k, v, m⟩ := x
          have hm := tok1_len ht
          rw [List.cons_append, toks_some _ _ _ h35 hb k v m (by rw [tok1_app hr]; exact ht), toks_some _ _ _ h35 hb k v m ht, List.drop_append_of_le_length hm, List.take_append_of_le_length hm,
            toks_app hr n (L.drop m) false (by simp; omega)]
/-- one piece at a time -/
theorem cutM_run (k : Int) : ∀ (l t : List UInt8), cutM l k t = cutM (l.dropWhile fun c => goes k c.toNat) k (t ++ l.takeWhile fun c => goes k c.toNat)
  | [], t => by simp
  | c :: l, t => by
    by_cases h : goes k c.toNat = true
    · rw [cutM_goes h, cutM_run k l (t ++ [c])]
      simp [h]
    · simp [h]
theorem goes_zero (r : Int) : goes 0 r = false := by simp [goes]
theorem goes_three (r : Int) : goes 3 r = false := by simp [goes]
theorem cutM_zero (l t : List UInt8) : cutM l 0 t = cutM l 0 [] := by
  cases l with
  | nil => rfl
  | cons c l => simp [cutM, goes_zero, endP]
theorem cutM_stop (k : Int) (l t : List UInt8) (h : l = [] ∨ ∃ c r, l = c :: r ∧ goes k c.toNat = false) : cutM l k t = (endP k t).bind fun ps => (cutM l 0 []).map (ps ++ ·) := by
  rcases h with rfl | ⟨c, r, rfl, hg⟩
  · simp only [cutM, endP_zero]
    cases endP k t <;> simp
  · simp only [cutM, hg, goes_zero, endP_zero, Bool.false_eq_true, if_false, Option.bind_some, List.nil_append]
    cases endP k t with
    | none => rfl
    | some ps =>
      simp only [Option.bind_some]
      cases beg c.toNat with
      | none => rfl
      | some k' => simp
theorem dw_head (p : UInt8 → Bool) : ∀ l : List UInt8, l.dropWhile p = [] ∨ ∃ c r, l.dropWhile p = c :: r ∧ p c = false
  | [] => .inl rfl
  | c :: l => by
    by_cases h : p c = true
    · simp only [List.dropWhile_cons, h, if_true]; exact dw_head p l
    · right; exact ⟨c, l, by simp [h], by simpa using h⟩
theorem cutM_tok (k : Int) (l t : List UInt8) : cutM l k t = (endP k (t ++ l.takeWhile fun c => goes k c.toNat)).bind fun ps => (cutM (l.dropWhile fun c => goes k c.toNat) 0 []).map (ps ++ ·) := by
  rw [cutM_run, cutM_stop _ _ _ (dw_head _ l)]
theorem cutM_first (c : UInt8) (r : List UInt8) : cutM (c :: r) 0 [] = (beg c.toNat).bind fun k' => cutM r k' [c] := by
  simp only [cutM, goes_zero, endP_zero, Bool.false_eq_true, if_false, Option.bind_some, List.nil_append]
  cases beg c.toNat with
  | none => rfl
  | some k' => simp
/-- a dot in a piece -/
theorem cutM_dot : ∀ (l : List UInt8) (k : Int) (t : List UInt8) (A : List Pc), cutM l k t = some A → (46 ∈ l ∨ (46 ∈ t ∧ k = 1)) → ∃ p ∈ A, p.1 = 1 ∧ (46 : UInt8) ∈ p.2
  | [], k, t, A, h, hd => by
    rcases hd with hd | ⟨hd, rfl⟩
    · simp at hd
    · simp only [cutM, endP] at h
      simp [endOk] at h
      subst h
      exact ⟨_, List.mem_singleton_self _, rfl, hd⟩
  | c :: l, k, t, A, h, hd => by
    by_cases hg : goes k c.toNat = true
    · rw [cutM_goes hg] at h
      refine cutM_dot l k (t ++ [c]) A h ?_
      rcases hd with hd | ⟨hd, rfl⟩
      · rcases List.mem_cons.1 hd with rfl | hd
        · right
          refine ⟨by simp, ?_⟩
          unfold goes at hg
          split at hg
          · assumption
          · split at hg
            · simp [digitB] at hg
            · cases hg
        · exact .inl hd
      · exact .inr ⟨by simp [hd], rfl⟩
    · have hg' : goes k c.toNat = false := by simpa using hg
      cases he : endP k t with
      | none => rw [cutM_end hg' he] at h; cases h
      | some ps =>
        cases hb : beg c.toNat with
        | none => rw [cutM_beg hg' hb] at h; cases h
        | some k' =>
          rw [cutM_next hg' he hb] at h
          cases hc : cutM l k' [c] with
          | none => rw [hc] at h; cases h
          | some B =>
            rw [hc] at h
            simp only [Option.map_some, Option.some.injEq] at h
            subst h
            rcases hd with hd | ⟨hd, rfl⟩
            · have : 46 ∈ l ∨ ((46 : UInt8) ∈ [c] ∧ k' = 1) := by
                rcases List.mem_cons.1 hd with rfl | hd
                · right
                  refine ⟨by simp, ?_⟩
                  have e : beg ((46 : UInt8).toNat) = some 1 := by decide
                  rw [e] at hb; cases hb; rfl
                · exact .inl hd
              obtain ⟨p, hp, h1, h2⟩ := cutM_dot l k' [c] B hc this
              exact ⟨p, List.mem_append_right _ hp, h1, h2⟩
            · simp [endP, endOk] at he
              subst he
              exact ⟨(1, t), by simp, rfl, hd⟩
end Pn
namespace Pn
open Go
def ck (k : Int) : Int := if k = 119 then 1 else if k = 105 then 2 else 3
def conv (t : Tok) : Pc := (ck t.kind, t.text)
/-- what a token of a line without dots is -/
def Good (t : Tok) : Prop :=
  (t.kind = 119 ∧ (∀ c ∈ t.text, alnum c = true) ∧ ∃ c r, t.text = c :: r ∧ smallB c.toNat = true) ∨
  (t.kind = 105 ∧ Lib.atoiAll t.text = .ok t.num ∧ ∃ c r, t.text = c :: r ∧ smallB c.toNat = false) ∨
  ((t.kind = 44 ∨ t.kind = 40 ∨ t.kind = 41 ∨ t.kind = 58) ∧ ∃ c : UInt8, t.text = [c] ∧ (c.toNat : Int) = t.kind ∧ smallB c.toNat = false)
def Adj (ps : List Pc) : Prop := ∃ i a b, ps[i]? = some a ∧ ps[i + 1]? = some b ∧ a.1 = 2 ∧ b.1 = 1
theorem adj_cons {p : Pc} {ps : List Pc} (h : Adj ps) : Adj (p :: ps) := by
  obtain ⟨i, a, b, h1, h2, h3, h4⟩ := h
  exact ⟨i + 1, a, b, by simpa using h1, by simpa using h2, h3, h4⟩
def Rel (o : Option (List Tok)) (q : Option (List Pc)) : Prop :=
  (∃ A, o = some A ∧ q = some (A.map conv) ∧ ∀ t ∈ A, Good t) ∨ (o = none ∧ (q = none ∨ ∃ ps, q = some ps ∧ Adj ps))
theorem rel_cons {o : Option (List Tok)} {q : Option (List Pc)} {t : Tok} (hg : Good t) (h : Rel o q) : Rel (o.map (t :: ·)) (q.map (conv t :: ·)) := by
  rcases h with ⟨A, rfl, rfl, hA⟩ | ⟨rfl, rfl | ⟨ps, rfl, ha⟩⟩
  · left
    exact ⟨t :: A, rfl, rfl, fun u hu => by rcases List.mem_cons.1 hu with rfl | hu; exact hg; exact hA u hu⟩
  · right; exact ⟨rfl, .inl rfl⟩
  · right; exact ⟨rfl, .inr ⟨_, rfl, adj_cons ha⟩⟩
theorem dig_not_small {c : UInt8} (h : digitB c.toNat = true) : smallB c.toNat = false := by
  simp [digitB] at h; simp [smallB]; omega
theorem digs_parse : ∀ (l : List UInt8) (acc : Nat) (m : Nat), (∀ c ∈ l, dig c = true) → l.length ≤ m → acc < 10 ^ (10 - m) → m ≤ 10 → ∃ u : Nat, Lib.parseUint10 acc l = .ok u ∧ (u : Int) = numOf acc l ∧ u < 10 ^ 10
  | [], acc, m, _, _, ha, hm => ⟨acc, rfl, rfl, Nat.lt_of_lt_of_le ha (Nat.pow_le_pow_right (by omega) (by omega))⟩
  | c :: l, acc, m, hd, hl, ha, hm => by
    have hc : dig c = true := hd c (by simp)
    have hb : 48 ≤ c.toNat ∧ c.toNat ≤ 57 := by
      unfold dig digitB at hc; simp at hc; omega
    obtain ⟨m', rfl⟩ : ∃ m', m = m' + 1 := ⟨m - 1, by simp at hl; omega⟩
    have hacc : acc * 10 + (c.toNat - 48) < 10 ^ (10 - m') := by
      have e : 10 - m' = (10 - (m' + 1)) + 1 := by omega
      rw [e, Nat.pow_succ]; omega
    have hle : 10 ^ (10 - m') ≤ 10 ^ 10 := Nat.pow_le_pow_right (by omega) (by omega)
    obtain ⟨u, h1, h2, h3⟩ := digs_parse l (acc * 10 + (c.toNat - 48)) m' (fun d h => hd d (by simp [h])) (by simpa using hl) hacc (by omega)
    refine ⟨u, ?_, ?_, h3⟩
    · have hp : (10:Nat) ^ 10 = 10000000000 := by decide
      have hle2 : 10 ^ (10 - (m' + 1)) ≤ 10 ^ 10 := Nat.pow_le_pow_right (by omega) (by omega)
      rw [← h1]
      simp only [Lib.parseUint10]
      rw [if_pos hb, if_neg (by omega), if_neg (by omega)]
    · rw [h2]
      simp only [numOf]
      congr 1
      omega
theorem mag_digs (l : List UInt8) (hd : ∀ c ∈ l, dig c = true) (h1 : l ≠ []) (h2 : l.length ≤ 10) : ∃ u : Nat, Lib.parseMag l = .ok u ∧ (u : Int) = numOf 0 l ∧ u < 10000000000 := by
  obtain ⟨u, a, b, c⟩ := digs_parse l 0 10 hd h2 (by decide) (by omega)
  exact ⟨u, by unfold Lib.parseMag; rw [if_neg h1]; exact a, b, c⟩
theorem atoi_digs (c : UInt8) (l : List UInt8) (hc : digitB c.toNat = true) (hd : ∀ d ∈ l, dig d = true) (h2 : l.length + 1 ≤ 10) : Lib.atoiAll (c :: l) = .ok (numOf 0 (c :: l)) := by
  obtain ⟨u, a, b, d⟩ := mag_digs (c :: l) (fun x hx => by rcases List.mem_cons.1 hx with rfl | hx; exact hc; exact hd x hx) (by simp) (by simpa using h2)
  have hb : 48 ≤ c.toNat ∧ c.toNat ≤ 57 := by simp [digitB] at hc; omega
  unfold Lib.atoiAll
  simp only [if_neg (show ¬ (c.toNat = 43 ∨ c.toNat = 45) by omega), a]
  rw [if_neg (by omega), if_neg (by omega), if_neg (by omega), b]
theorem atoi_minus (l : List UInt8) (hd : ∀ d ∈ l, dig d = true) (h1 : l ≠ []) (h2 : l.length ≤ 10) : Lib.atoiAll (45 :: l) = .ok (- numOf 0 l) := by
  obtain ⟨u, a, b, d⟩ := mag_digs l hd h1 h2
  have e : ((45 : UInt8).toNat) = 45 := rfl
  unfold Lib.atoiAll
  simp only [e, or_true, if_true, a]
  rw [if_neg (by omega), if_neg (by omega), b]
theorem tw_all (p : UInt8 → Bool) (l : List UInt8) : ∀ c ∈ l.takeWhile p, p c = true := fun c hc => by
  have := List.all_takeWhile (p := p) (l := l)
  exact (List.all_eq_true.1 this) c hc
theorem take_tw (p : UInt8 → Bool) (l : List UInt8) : l.take (l.takeWhile p).length = l.takeWhile p := (List.prefix_iff_eq_take.1 (List.takeWhile_prefix _)).symm
theorem drop_tw (p : UInt8 → Bool) : ∀ l : List UInt8, l.drop (l.takeWhile p).length = l.dropWhile p
  | [] => rfl
  | c :: l => by
    by_cases h : p c = true
    · simp [h, drop_tw p l]
    · simp [h]
theorem goes1_eq {l : List UInt8} (h : 46 ∉ l) : (l.takeWhile fun c => goes 1 c.toNat) = l.takeWhile alnum ∧ (l.dropWhile fun c => goes 1 c.toNat) = l.dropWhile alnum := by
  have key : ∀ c ∈ l, goes 1 c.toNat = alnum c := fun c hc => by
    have : c ≠ 46 := fun e => h (e ▸ hc)
    have h2 : ((c.toNat : Int) == 46) = false := by
      apply beq_false_of_ne
      intro e
      exact this (u8_eq (n := 46) e)
    simp [goes, alnum, h2]
  clear h
  induction l with
  | nil => exact ⟨rfl, rfl⟩
  | cons c l ih =>
    have ih' := ih (fun d hd => key d (by simp [hd]))
    have hc := key c (by simp)
    by_cases ha : alnum c = true
    · rw [ha] at hc; simp [ha, hc, ih'.1, ih'.2]
    · rw [Bool.not_eq_true] at ha; rw [ha] at hc; simp [ha, hc]
theorem goes2_eq (l : List UInt8) : (l.takeWhile fun c => goes 2 c.toNat) = l.takeWhile dig ∧ (l.dropWhile fun c => goes 2 c.toNat) = l.dropWhile dig := ⟨rfl, rfl⟩
theorem goes3_eq (l : List UInt8) : (l.takeWhile fun c => goes 3 c.toNat) = [] ∧ (l.dropWhile fun c => goes 3 c.toNat) = l := by
  cases l <;> simp [goes_three]
theorem goes0_eq (l : List UInt8) : (l.takeWhile fun c => goes 0 c.toNat) = [] ∧ (l.dropWhile fun c => goes 0 c.toNat) = l := by
  cases l <;> simp [goes_zero]
theorem not_dw {p : UInt8 → Bool} {x : UInt8} {l : List UInt8} (h : x ∉ l) : x ∉ l.dropWhile p := fun hx => h ((List.dropWhile_sublist p).subset hx)
/-- a number and what stands behind it -/
theorem rel_num {c : UInt8} {r : List UInt8} {b : Bool} {num : Int} {m : Nat} (hm : (r.takeWhile dig).length = m) (h35 : c ≠ 35) (hbl : ¬ (c = 32 ∨ c = 9)) (hbeg : beg c.toNat = some 2) (hsm : smallB c.toNat = false)
    (hbad : isInt (c :: r.takeWhile dig) = false → tok1 c r = none)
    (hlet : isInt (c :: r.takeWhile dig) = true → ((r.drop m).head?.map fun d => smallB d.toNat) = some true → tok1 c r = none)
    (hok : isInt (c :: r.takeWhile dig) = true → ((r.drop m).head?.map fun d => smallB d.toNat) ≠ some true → tok1 c r = some (105, num, m) ∧ Lib.atoiAll (c :: r.takeWhile dig) = .ok num)
    (ih : ∀ b, Rel (toks (r.drop m) b) (cutM (r.drop m) 0 [])) : Rel (toks (c :: r) b) (cutM (c :: r) 0 []) := by
  have hdrop : r.drop m = r.dropWhile dig := by rw [← hm]; exact drop_tw dig r
  have hc : cutM (c :: r) 0 [] = (endP 2 (c :: r.takeWhile dig)).bind fun ps => (cutM (r.drop m) 0 []).map (ps ++ ·) := by
    rw [cutM_first, hbeg, Option.bind_some, cutM_tok, (goes2_eq r).1, (goes2_eq r).2, hdrop]; rfl
  by_cases hi : isInt (c :: r.takeWhile dig) = true
  · have he : endP 2 (c :: r.takeWhile dig) = some [(2, c :: r.takeWhile dig)] := endP_yes rfl (by simp [endOk, hi])
    rw [hc, he, Option.bind_some]
    by_cases hl : ((r.drop m).head?.map fun d => smallB d.toNat) = some true
    · rw [toks_none _ _ _ h35 hbl (hlet hi hl)]
      right
      refine ⟨rfl, ?_⟩
      cases hcm : cutM (r.drop m) 0 [] with
      | none => left; rfl
      | some ps =>
        right
        refine ⟨_, rfl, ?_⟩
        cases hr : r.drop m with
        | nil => rw [hr] at hl; simp at hl
        | cons d q =>
          rw [hr] at hl hcm
          simp at hl
          have hb1 : beg d.toNat = some 1 := by simp [beg, hl]
          rw [cutM_first, hb1, Option.bind_some, cutM_tok] at hcm
          have he1 : ∀ t, endP 1 t = some [(1, t)] := fun t => endP_yes rfl (by simp [endOk])
          rw [he1, Option.bind_some] at hcm
          cases hq : cutM (q.dropWhile fun c => goes 1 c.toNat) 0 [] with
          | none => rw [hq] at hcm; cases hcm
          | some B =>
            rw [hq] at hcm
            simp only [Option.map_some, Option.some.injEq] at hcm
            subst hcm
            exact ⟨0, _, _, rfl, rfl, rfl, rfl⟩
    · obtain ⟨ht, ha⟩ := hok hi hl
      rw [toks_some _ _ _ h35 hbl _ _ _ ht]
      have hg : Good ⟨105, c :: r.take m, num, b⟩ := by
        right; left
        refine ⟨rfl, ?_, c, _, rfl, hsm⟩
        show Lib.atoiAll (c :: r.take m) = .ok num
        rw [← hm, take_tw]; exact ha
      have := rel_cons hg (ih false)
      have e : conv ⟨105, c :: r.take m, num, b⟩ = (2, c :: r.takeWhile dig) := by
        show (ck 105, c :: r.take m) = _
        rw [← hm, take_tw]; rfl
      rw [e] at this
      exact this
  · have hi' : isInt (c :: r.takeWhile dig) = false := by simpa using hi
    rw [hc, endP_no rfl (by simp [endOk, hi']), toks_none _ _ _ h35 hbl (hbad hi')]
    right; exact ⟨rfl, .inl rfl⟩
end Pn
namespace Pn
open Go
theorem trim_not {c : UInt8} {l : List UInt8} (h : c ≠ 45) : Lib.trimPrefix (c :: l) [45] = c :: l := by
  unfold Lib.trimPrefix Lib.hasPrefix
  have : (45 == c) = false := beq_false_of_ne (fun e => h e.symm)
  simp [List.isPrefixOf, this]
theorem trim_minus (l : List UInt8) : Lib.trimPrefix (45 :: l) [45] = l := by
  unfold Lib.trimPrefix Lib.hasPrefix
  simp [List.isPrefixOf]
theorem rel_main : ∀ (n : Nat) (L : List UInt8) (b : Bool), L.length ≤ n → 46 ∉ L → 35 ∉ L → Rel (toks L b) (cutM L 0 [])
  | n, [], b, _, _, _ => by
    rw [toks_nil]; left; exact ⟨[], rfl, rfl, fun t h => by simp at h⟩
  | 0, c :: r, b, h, _, _ => by simp at h
  | n + 1, c :: r, b, h, h46, h35 => by
    have hr : r.length ≤ n := by simpa using h
    have n46 : 46 ∉ r := fun e => h46 (by simp [e])
    have n35 : 35 ∉ r := fun e => h35 (by simp [e])
    have c46 : c ≠ 46 := fun e => h46 (by simp [e])
    have c35 : c ≠ 35 := fun e => h35 (by simp [e])
    have ihd : ∀ m b, Rel (toks (r.drop m) b) (cutM (r.drop m) 0 []) := fun m b =>
      rel_main n (r.drop m) b (by simp; omega) (fun e => n46 (List.mem_of_mem_drop e)) (fun e => n35 (List.mem_of_mem_drop e))
    by_cases hbl : c = 32 ∨ c = 9
    · rw [toks_blank _ _ _ hbl]
      have hb : beg c.toNat = some 0 := by rcases hbl with rfl | rfl <;> decide
      rw [cutM_first, hb, Option.bind_some, cutM_zero]
      exact rel_main n r true hr n46 n35
    · by_cases hs : smallB c.toNat = true
      · have hb : beg c.toNat = some 1 := by simp [beg, hs]
        have ht : tok1 c r = some (119, 0, (r.takeWhile alnum).length) := tok1_word c r hs _ rfl
        rw [toks_some _ _ _ c35 hbl _ _ _ ht, cutM_first, hb, Option.bind_some, cutM_tok, (goes1_eq n46).1, (goes1_eq n46).2]
        have he : endP 1 ([c] ++ r.takeWhile alnum) = some [(1, c :: r.takeWhile alnum)] := endP_yes rfl (by simp [endOk])
        rw [he, Option.bind_some]
        have hg : Good ⟨119, c :: r.take (r.takeWhile alnum).length, 0, b⟩ := by
          left
          refine ⟨rfl, ?_, c, _, rfl, hs⟩
          show ∀ d ∈ c :: r.take (r.takeWhile alnum).length, alnum d = true
          rw [take_tw]
          intro d hd
          rcases List.mem_cons.1 hd with rfl | hd
          · simp [alnum, hs]
          · exact tw_all alnum r d hd
        have := rel_cons hg (ihd (r.takeWhile alnum).length false)
        rw [drop_tw] at this ⊢
        have e : conv ⟨119, c :: r.take (r.takeWhile alnum).length, 0, b⟩ = (1, c :: r.takeWhile alnum) := by
          show (ck 119, c :: r.take (r.takeWhile alnum).length) = _
          rw [take_tw]; rfl
        rw [e] at this
        exact this
      · have hs' : smallB c.toNat = false := by simpa using hs
        have q46 : ((c.toNat : Int) == 46) = false := beq_false_of_ne (fun e => c46 (u8_eq (n := 46) e))
        by_cases hd : digitB c.toNat = true
        · have hb : beg c.toNat = some 2 := by simp [beg, hs', q46, hd]
          have c45 : c ≠ 45 := fun e => by rw [e] at hd; exact absurd hd (by decide)
          have hI : isInt (c :: r.takeWhile dig) = decide ((r.takeWhile dig).length + 1 ≤ 10) := by
            unfold isInt
            rw [trim_not c45]
            simp
          refine rel_num (num := numOf 0 (c :: r.take (r.takeWhile dig).length)) rfl c35 hbl hb hs' (fun hi => ?_) (fun hi hl => ?_) (fun hi hl => ?_) (ihd _)
          · rw [hI] at hi; exact tok1_dig_long c r hs' hd _ rfl (by simp at hi; omega)
          · exact tok1_dig_letter c r hs' hd _ rfl hl
          · rw [hI] at hi
            have hi' : (r.takeWhile dig).length + 1 ≤ 10 := by simpa using hi
            refine ⟨tok1_dig c r hs' hd _ rfl (by omega) hl, ?_⟩
            rw [take_tw]
            exact atoi_digs c _ hd (tw_all dig r) hi'
        · have hd' : digitB c.toNat = false := by simpa using hd
          by_cases c45 : c = 45
          · subst c45
            have hI : isInt (45 :: r.takeWhile dig) = (decide (1 ≤ (r.takeWhile dig).length) && decide ((r.takeWhile dig).length ≤ 10)) := by
              unfold isInt; rw [trim_minus]
            have hhd : 1 ≤ (r.takeWhile dig).length → r.head?.map dig = some true := fun hl => by
              cases r with
              | nil => simp at hl
              | cons d q =>
                by_cases hq : dig d = true
                · simp [hq]
                · simp [hq] at hl
            refine rel_num (num := - numOf 0 (r.take (r.takeWhile dig).length)) rfl c35 hbl (by decide) hs' (fun hi => ?_) (fun hi hl => ?_) (fun hi hl => ?_) (ihd _)
            · rw [hI] at hi
              by_cases h1 : 1 ≤ (r.takeWhile dig).length
              · exact tok1_min_long r (hhd h1) _ rfl (by simp [h1] at hi; omega)
              · refine tok1_bad 45 r hs' hd' (fun hx => ?_) (by decide)
                cases r with
                | nil => simp at hx
                | cons d q =>
                  have hq : dig d = true := by simpa using hx.2
                  simp [hq] at h1
            · rw [hI] at hi
              have h1 : 1 ≤ (r.takeWhile dig).length := by simp at hi; omega
              exact tok1_min_letter r (hhd h1) _ rfl hl
            · rw [hI] at hi
              have h1 : 1 ≤ (r.takeWhile dig).length ∧ (r.takeWhile dig).length ≤ 10 := by simpa using hi
              refine ⟨tok1_min r (hhd h1.1) _ rfl (by omega) hl, ?_⟩
              rw [take_tw]
              exact atoi_minus _ (tw_all dig r) (fun e => by rw [e] at h1; simp at h1) h1.2
          · have q45 : ((c.toNat : Int) == 45) = false := beq_false_of_ne (fun e => c45 (u8_eq (n := 45) e))
            by_cases hm : c = 44 ∨ c = 40 ∨ c = 41 ∨ c = 58
            · have hb : beg c.toNat = some 3 := by rcases hm with rfl | rfl | rfl | rfl <;> decide
              have ht : tok1 c r = some ((c.toNat : Int), 0, 0) := tok1_sign c r (by rcases hm with h | h | h | h <;> simp [h])
              rw [toks_some _ _ _ c35 hbl _ _ _ ht, cutM_first, hb, Option.bind_some, cutM_tok, (goes3_eq r).1, (goes3_eq r).2]
              have he : endP 3 ([c] ++ []) = some [(3, [c])] := endP_yes rfl (by simp [endOk])
              rw [he, Option.bind_some]
              have hg : Good ⟨(c.toNat : Int), c :: r.take 0, 0, b⟩ := by
                right; right
                refine ⟨?_, c, by simp, rfl, hs'⟩
                show (c.toNat : Int) = 44 ∨ (c.toNat : Int) = 40 ∨ (c.toNat : Int) = 41 ∨ (c.toNat : Int) = 58
                rcases hm with rfl | rfl | rfl | rfl <;> decide
              have := rel_cons hg (ihd 0 false)
              have e : conv ⟨(c.toNat : Int), c :: r.take 0, 0, b⟩ = (3, [c]) := by
                show (ck (c.toNat : Int), c :: r.take 0) = _
                have : ck (c.toNat : Int) = 3 := by rcases hm with rfl | rfl | rfl | rfl <;> decide
                rw [this]; simp
              rw [e] at this
              exact this
            · have ht : tok1 c r = none := tok1_bad c r hs' hd' (fun hx => c45 hx.1) (by rintro (h | h | h | h | h); exact hm (.inl h); exact hm (.inr (.inl h)); exact hm (.inr (.inr (.inl h))); exact hm (.inr (.inr (.inr h))); exact c46 h)
              have ne : ∀ m : Nat, c ≠ UInt8.ofNat m → ((c.toNat : Int) == (m : Int)) = false := fun m hm => beq_false_of_ne (fun e => hm (u8_eq e))
              have hb : beg c.toNat = none := by
                have a1 : ((c.toNat : Int) == 44) = false := ne 44 (fun e => hm (.inl e))
                have a2 : ((c.toNat : Int) == 58) = false := ne 58 (fun e => hm (.inr (.inr (.inr e))))
                have a3 : ((c.toNat : Int) == 40) = false := ne 40 (fun e => hm (.inr (.inl e)))
                have a4 : ((c.toNat : Int) == 41) = false := ne 41 (fun e => hm (.inr (.inr (.inl e))))
                have a5 : ((c.toNat : Int) == 32) = false := ne 32 (fun e => hbl (.inl e))
                have a6 : ((c.toNat : Int) == 9) = false := ne 9 (fun e => hbl (.inr e))
                simp only [beg, hs', hd', q46, q45, a1, a2, a3, a4, a5, a6, Bool.or_self, Bool.false_eq_true, if_false]
              rw [toks_none _ _ _ c35 hbl ht, cutM_first, hb]
              right; exact ⟨rfl, .inl rfl⟩
theorem tok1_chars {c : UInt8} {r : List UInt8} {k v : Int} {m : Nat} (h : tok1 c r = some (k, v, m)) : ∀ d ∈ r.take m, alnum d = true ∨ dig d = true := by
  unfold tok1 at h
  intro d hd
  repeat' split at h
  all_goals first
    | (cases h; done)
    | (simp only [Option.some.injEq, Prod.mk.injEq] at h
       obtain ⟨_, _, rfl⟩ := h
       first
       | (rw [take_tw] at hd; exact .inl (tw_all _ _ d hd))
       | (rw [take_tw] at hd; exact .inr (tw_all _ _ d hd))
       | simp at hd)
/-- a dot among the tokens -/
theorem toks_dot : ∀ (n : Nat) (L : List UInt8) (b : Bool) (A : List Tok), L.length ≤ n → 46 ∈ L → 35 ∉ L → toks L b = some A → ∃ t ∈ A, t.kind = 46
  | n, [], b, A, _, h, _, _ => by simp at h
  | 0, c :: r, b, A, h, _, _, _ => by simp at h
  | n + 1, c :: r, b, A, h, h46, h35, ht => by
    have hr : r.length ≤ n := by simpa using h
    have n35 : 35 ∉ r := fun e => h35 (by simp [e])
    have c35 : c ≠ 35 := fun e => h35 (by simp [e])
    by_cases hbl : c = 32 ∨ c = 9
    · rw [toks_blank _ _ _ hbl] at ht
      refine toks_dot n r true A hr ?_ n35 ht
      rcases List.mem_cons.1 h46 with e | e
      · rcases hbl with h | h <;> (rw [h] at e; exact absurd e (by decide))
      · exact e
    · cases hq : tok1 c r with
      | none => rw [toks_none _ _ _ c35 hbl hq] at ht; cases ht
      | some x =>
        obtain ⟨k, v, m⟩ := x
        rw [toks_some _ _ _ c35 hbl _ _ _ hq] at ht
        cases hB : toks (r.drop m) false with
        | none => rw [hB] at ht; cases ht
        | some B =>
          rw [hB] at ht
          simp only [Option.map_some, Option.some.injEq] at ht
          subst ht
          by_cases hc : c = 46
          · subst hc
            rw [tok1_sign 46 r (by simp)] at hq
            simp only [Option.some.injEq, Prod.mk.injEq] at hq
            exact ⟨_, List.mem_cons_self .., hq.1.symm⟩
          · have hmem : 46 ∈ r := by
              rcases List.mem_cons.1 h46 with e | e
              · exact absurd e.symm hc
              · exact e
            have hnt : (46 : UInt8) ∉ r.take m := fun hx => by
              have := tok1_chars hq _ hx
              rcases this with h | h <;> exact absurd h (by decide)
            have hd : 46 ∈ r.drop m := by
              have := (List.take_append_drop m r).symm ▸ hmem
              rcases List.mem_append.1 this with e | e
              · exact absurd e hnt
              · exact e
            obtain ⟨t, h1, h2⟩ := toks_dot n (r.drop m) false B (by simp; omega) hd (fun e => n35 (List.mem_of_mem_drop e)) hB
            exact ⟨t, by simp [h1], h2⟩
end Pn
