import Derived.Test.YtbmcofdodfcnnaaGreatDoorGLA
namespace Pn
open Go
structure Qt where
  p : Prt
  line : Int
  size : Int
def qtC (x : Qt) : List Value := prtC x.p ++ [.int .i64 x.line, .int .i64 x.size]
def fsz (short : Bool) (p : Prt) : Int := if p.data = [] then (if short = true ∧ (p.tg ≠ [] ∨ (shortP p.ins).2 = 0) then 2 else 4) else p.data.length
def fszs (short : Bool) (l : List Qt) (j : Nat) : List Qt := l.mapIdx fun k x => if k < j then ⟨x.p, x.line, fsz short x.p⟩ else x
theorem fszs_len (short : Bool) (l : List Qt) (j : Nat) : (fszs short l j).length = l.length := by simp [fszs]
theorem fszs_at {short : Bool} {l : List Qt} {j k : Nat} {x : Qt} (h : l[k]? = some x) : (fszs short l j)[k]? = some (if k < j then ⟨x.p, x.line, fsz short x.p⟩ else x) := by simp [fszs, h]
theorem fszs_zero (short : Bool) (l : List Qt) : fszs short l 0 = l := by
  apply List.ext_getElem?
  intro k
  cases h : l[k]? with
  | none => simp [fszs, h]
  | some x => simp [fszs, h]
def plq : List Qt → Nat → Int
  | _, 0 => 0
  | l, k + 1 => plq l k + (match l[k]? with | some x => x.size | none => 0)
def plqs (l : List Qt) (j : Nat) : List Int := (List.range (j + 1)).map (plq l)
theorem plqs_len (l : List Qt) (j : Nat) : (plqs l j).length = j + 1 := by simp [plqs]
theorem plqs_succ (l : List Qt) (j : Nat) : plqs l (j + 1) = plqs l j ++ [plq l (j + 1)] := by simp [plqs, List.range_succ]
theorem plqs_at (l : List Qt) (j k : Nat) (h : k ≤ j) : (plqs l j).getD k 0 = plq l k := by simp [plqs, List.getD, List.getElem?_range (show k < j + 1 by omega)]
def nmI (N : List (List UInt8 × Nat)) (t : List UInt8) : Nat := (N.lookup t).getD 0
def plcI (P : List Int) (N : List (List UInt8 × Nat)) (k : Nat) (p : Prt) : Ins := if p.tg = [] then p.ins else ⟨p.ins.op, p.ins.rd, p.ins.rs1, p.ins.rs2, P.getD (nmI N p.tg) 0 - P.getD k 0⟩
def mustG (P : List Int) (N : List (List UInt8 × Nat)) (k : Nat) (x : Qt) : Bool := !x.p.tg.isEmpty && (x.size == 2) && !((shortP (plcI P N k x.p)).2 == 0)
def grw (P : List Int) (N : List (List UInt8 × Nat)) (l : List Qt) (j : Nat) : List Qt := l.mapIdx fun k x => if k < j ∧ mustG P N k x = true then ⟨x.p, x.line, 4⟩ else x
theorem grw_len (P : List Int) (N : List (List UInt8 × Nat)) (l : List Qt) (j : Nat) : (grw P N l j).length = l.length := by simp [grw]
theorem grw_at {P : List Int} {N : List (List UInt8 × Nat)} {l : List Qt} {j k : Nat} {x : Qt} (h : l[k]? = some x) : (grw P N l j)[k]? = some (if k < j ∧ mustG P N k x = true then ⟨x.p, x.line, 4⟩ else x) := by simp [grw, h]
theorem grw_zero (P : List Int) (N : List (List UInt8 × Nat)) (l : List Qt) : grw P N l 0 = l := by
  apply List.ext_getElem?
  intro k
  cases h : l[k]? with
  | none => simp [grw, h]
  | some x => simp [grw, h]
theorem grw_not {P : List Int} {N : List (List UInt8 × Nat)} {l : List Qt} {j : Nat} {x : Qt} (h : l[j]? = some x) (hm : mustG P N j x = false) : grw P N l (j + 1) = grw P N l j := by
  apply List.ext_getElem?
  intro k
  cases hk : l[k]? with
  | none => simp [grw, hk]
  | some y =>
    rw [grw_at hk, grw_at hk]
    by_cases e : k = j
    · subst e
      rw [h] at hk; cases hk
      simp [hm]
    · have : k < j + 1 ↔ k < j := by omega
      simp only [this]
def anyG (P : List Int) (N : List (List UInt8 × Nat)) (l : List Qt) (j : Nat) : Bool := (List.range j).any fun k => match l[k]? with | some x => mustG P N k x | none => false
theorem anyG_succ (P : List Int) (N : List (List UInt8 × Nat)) (l : List Qt) (j : Nat) {x : Qt} (h : l[j]? = some x) : anyG P N l (j + 1) = (anyG P N l j || mustG P N j x) := by simp [anyG, List.range_succ, h]
def rnd (N : List (List UInt8 × Nat)) (l : List Qt) : List Qt := grw (plqs l l.length) N l l.length
def rnds (N : List (List UInt8 × Nat)) : Nat → List Qt → List Qt
  | 0, l => l
  | m + 1, l => rnds N m (rnd N l)
def byq (P : List Int) (N : List (List UInt8 × Nat)) (k : Nat) (x : Qt) : Option (List UInt8) :=
  if x.p.data = [] then
    (if x.size = 2 then (if (shortP (plcI P N k x.p)).2 = 0 then some (bytN 2 (shortP (plcI P N k x.p)).1) else none)
     else (if (enc (plcI P N k x.p)).2 = 0 then some (bytN 4 (enc (plcI P N k x.p)).1) else none))
  else some x.p.data
def byqs (P : List Int) (N : List (List UInt8 × Nat)) (l : List Qt) : Nat → List UInt8
  | 0 => []
  | j + 1 => byqs P N l j ++ (match l[j]? with | some x => (byq P N j x).getD [] | none => [])
def addP (s : List UInt8) (number : Int) (l : List Qt) (N : List (List UInt8 × Nat)) : Int × List Qt × List (List UInt8 × Nat) :=
  if (rline s).2.2 = 0 then
    (if (rline s).1 = [] then (0, l ++ (rline s).2.1.map (fun p => ⟨p, number, 0⟩), N)
     else if (N.lookup (rline s).1).isSome then (6, l, N)
     else (0, l ++ (rline s).2.1.map (fun p => ⟨p, number, 0⟩), N ++ [((rline s).1, l.length)]))
  else ((rline s).2.2, l, N)
end Pn
namespace Pn
open Go
def SzOk (l : List Qt) : Prop := ∀ x ∈ l, 0 ≤ x.size ∧ x.size ≤ 4
theorem mem_at {l : List Qt} {k : Nat} {x : Qt} (h : l[k]? = some x) : x ∈ l := List.mem_of_getElem? h
theorem SzOk.at' {l : List Qt} (h : SzOk l) {k : Nat} {x : Qt} (hk : l[k]? = some x) : 0 ≤ x.size ∧ x.size ≤ 4 := h x (mem_at hk)
theorem szOk_of {l : List Qt} (h : ∀ (k : Nat) (x : Qt), l[k]? = some x → 0 ≤ x.size ∧ x.size ≤ 4) : SzOk l := fun x hx => by
  obtain ⟨k, hk⟩ := List.getElem?_of_mem hx
  exact h k x hk
theorem plq_bd {l : List Qt} (h : SzOk l) (k : Nat) : 0 ≤ plq l k ∧ plq l k ≤ 4 * k := by
  induction k with
  | zero => simp [plq]
  | succ k ih =>
    simp only [plq]
    cases hk : l[k]? with
    | none => simp only; omega
    | some x =>
      have := h.at' hk
      simp only; omega
theorem at_len {α : Type} {l m : List α} (hl : l.length = m.length) {k : Nat} {x : α} (h : l[k]? = some x) : ∃ y, m[k]? = some y := by
  have hk := (List.getElem?_eq_some_iff.1 h).1
  exact ⟨_, List.getElem?_eq_getElem (by omega)⟩
theorem fszs_ok {short : Bool} {l : List Qt} (h : ∀ x ∈ l, x.p.data.length ≤ 4) : SzOk (fszs short l l.length) := szOk_of fun k x hk => by
  obtain ⟨y, hy⟩ := at_len (fszs_len short l l.length) hk
  rw [fszs_at hy, if_pos (List.getElem?_eq_some_iff.1 hy).1] at hk
  cases hk
  have hd := h y (mem_at hy)
  simp only [fsz]
  split
  · split <;> omega
  · omega
theorem grw_ok {P : List Int} {N : List (List UInt8 × Nat)} {l : List Qt} {j : Nat} (h : SzOk l) : SzOk (grw P N l j) := szOk_of fun k x hk => by
  obtain ⟨y, hy⟩ := at_len (grw_len P N l j) hk
  rw [grw_at hy] at hk
  cases hk
  have := h.at' hy
  split
  · simp
  · exact this
theorem rnd_len (N : List (List UInt8 × Nat)) (l : List Qt) : (rnd N l).length = l.length := grw_len _ _ _ _
theorem rnds_len (N : List (List UInt8 × Nat)) : ∀ (m : Nat) (l : List Qt), (rnds N m l).length = l.length
  | 0, _ => rfl
  | m + 1, l => by rw [rnds, rnds_len N m, rnd_len]
theorem rnds_ok {N : List (List UInt8 × Nat)} : ∀ (m : Nat) {l : List Qt}, SzOk l → SzOk (rnds N m l)
  | 0, _, h => h
  | m + 1, _, h => rnds_ok m (grw_ok h)
theorem rnds_succ (N : List (List UInt8 × Nat)) : ∀ (m : Nat) (l : List Qt), rnds N (m + 1) l = rnd N (rnds N m l)
  | 0, _ => rfl
  | m + 1, l => by rw [rnds, rnds_succ N m (rnd N l)]; rfl
theorem grw_ge {P : List Int} {N : List (List UInt8 × Nat)} {l : List Qt} {j : Nat} (h : SzOk l) (k : Nat) : plq l k ≤ plq (grw P N l j) k := by
  induction k with
  | zero => simp [plq]
  | succ k ih =>
    simp only [plq]
    cases hk : l[k]? with
    | none =>
      have : (grw P N l j)[k]? = none := by simp [grw, hk]
      rw [this]; simp only; omega
    | some x =>
      have hx := h.at' hk
      rw [grw_at hk]
      simp only
      split
      · simp only; omega
      · omega
theorem grw_more {P : List Int} {N : List (List UInt8 × Nat)} {l : List Qt} (h : SzOk l) (k : Nat) (hk : k ≤ l.length) (ha : anyG P N l k = true) : plq l k < plq (grw P N l l.length) k := by
  induction k with
  | zero => simp [anyG] at ha
  | succ k ih =>
    obtain ⟨x, hx⟩ : ∃ x, l[k]? = some x := ⟨_, List.getElem?_eq_getElem (by omega)⟩
    rw [anyG_succ P N l k hx] at ha
    have hb := h.at' hx
    simp only [plq, hx, grw_at hx]
    have hge := grw_ge (P := P) (N := N) (j := l.length) h k
    by_cases hm : mustG P N k x = true
    · have h2 : x.size = 2 := by
        simp only [mustG, Bool.and_eq_true, beq_iff_eq] at hm
        exact hm.1.2
      rw [if_pos ⟨by omega, hm⟩]
      simp only
      omega
    · have hf : mustG P N k x = false := by simpa using hm
      rw [hf, Bool.or_false] at ha
      rw [if_neg (fun h => hm h.2)]
      have := ih (by omega) ha
      omega
end Pn
namespace Pn
open Go
theorem isNm_len {k : Int} {t : List UInt8} (h : isNm k t = true) : t.length ≤ 8 := by
  simp only [isNm, Bool.and_eq_true, decide_eq_true_eq] at h
  exact h.1.2
theorem pstep_tg {r : UInt8} {k : Int} {t : List UInt8} {i : Ins} {tg : List UInt8} {s : Ins × List UInt8} (h : pstep r k t i tg = some s) (ht : tg.length ≤ 8) : s.2.length ≤ 8 := by
  unfold pstep at h
  split at h
  · simp only [Option.map_eq_some_iff] at h; obtain ⟨_, _, rfl⟩ := h; exact ht
  · split at h
    · simp only [Option.map_eq_some_iff] at h; obtain ⟨_, _, rfl⟩ := h; exact ht
    · split at h
      · simp only [Option.map_eq_some_iff] at h; obtain ⟨_, _, rfl⟩ := h; exact ht
      · split at h
        · simp only [Option.map_eq_some_iff] at h; obtain ⟨_, _, rfl⟩ := h; exact ht
        · split at h
          · split at h
            · rename_i hn
              injection h with h; subst h
              exact isNm_len hn
            · simp only [Option.map_eq_some_iff] at h; obtain ⟨_, _, rfl⟩ := h; exact ht
          · split at h
            · injection h with h; subst h; exact ht
            · cases h
theorem pshape_tg : ∀ (F : List UInt8) (l : List Pc) (i : Ins) (tg : List UInt8) {s : Ins × List UInt8}, pshape F l i tg = some s → tg.length ≤ 8 → s.2.length ≤ 8
  | [], [], _, _, _, h, ht => by simp only [pshape] at h; injection h with h; subst h; exact ht
  | [], _ :: _, _, _, _, h, _ => by simp [pshape] at h
  | _ :: _, [], _, _, _, h, _ => by simp [pshape] at h
  | r :: F, (k, t) :: l, i, tg, s, h, ht => by
    simp only [pshape] at h
    cases hs : pstep r k t i tg with
    | none => rw [hs] at h; cases h
    | some q =>
      rw [hs] at h
      exact pshape_tg F l q.1 q.2 h (pstep_tg hs ht)
def PtOk (p : Prt) : Prop := p.data.length ≤ 4 ∧ p.tg.length ≤ 8 ∧ (p.data ≠ [] → p.tg = [])
theorem loadP_ok (r n : Int) : (loadP r n).length ≤ 2 ∧ ∀ p ∈ loadP r n, PtOk p := by
  unfold loadP
  split
  · exact ⟨by simp, fun p hp => by simp at hp; subst hp; simp [PtOk]⟩
  · split
    · exact ⟨by simp, fun p hp => by simp at hp; subst hp; simp [PtOk]⟩
    · exact ⟨by simp, fun p hp => by simp at hp; rcases hp with rfl | rfl <;> simp [PtOk]⟩
theorem rst_ok (nm : ByteArray) (l : List Pc) : (rst nm l).1.length ≤ 2 ∧ ∀ p ∈ (rst nm l).1, PtOk p := by
  unfold rst
  split
  · unfold rshort
    split
    · split
      · exact ⟨by simp, fun p hp => by simp at hp; subst hp; simp [PtOk, bytN_len]⟩
      · exact ⟨by simp, fun p hp => by simp at hp⟩
    · exact ⟨by simp, fun p hp => by simp at hp⟩
  · split
    · have hd : (dsz nm.data.toList).toNat ≤ 4 := by
        unfold dsz
        repeat' split
        all_goals decide
      unfold rdata
      split
      · exact ⟨by simp, fun p hp => by simp at hp⟩
      · split
        · exact ⟨by simp, fun p hp => by simp at hp⟩
        · exact ⟨by simp, fun p hp => by simp at hp; subst hp; simp [PtOk, bytN_len, hd]⟩
    · split
      · unfold rload
        split
        · exact ⟨by simp, fun p hp => by simp at hp⟩
        · split
          · exact ⟨by simp, fun p hp => by simp at hp⟩
          · exact loadP_ok _ _
      · split
        · refine ⟨by simp, fun p hp => ?_⟩
          have e : p = (rinN nm l).1 := by simpa using hp
          subst e
          unfold rinN
          split
          · simp [PtOk, zPrt]
          · split
            · simp [PtOk, zPrt]
            · rename_i t ht
              split
              · exact ⟨by simp, pshape_tg _ _ _ _ ht (by simp), fun h => absurd rfl h⟩
              · simp [PtOk, zPrt]
        · exact ⟨by simp, fun p hp => by simp at hp⟩
theorem rstmt_ok (nm : List UInt8) (l : List Pc) (h : nm.length ≤ 8) : (rstmt nm l).1.length ≤ 8 ∧ (rstmt nm l).2.1.length ≤ 2 ∧ ∀ p ∈ (rstmt nm l).2.1, PtOk p := by
  cases l with
  | nil => exact ⟨h, by simp [rstmt], fun p hp => by simp [rstmt] at hp⟩
  | cons q l =>
    simp only [rstmt]
    split
    · exact ⟨h, (rst_ok _ _).1, (rst_ok _ _).2⟩
    · exact ⟨by simp, by simp, fun p hp => by simp at hp⟩
theorem rline_ok (s : List UInt8) : (rline s).1.length ≤ 8 ∧ (rline s).2.1.length ≤ 2 ∧ ∀ p ∈ (rline s).2.1, PtOk p := by
  unfold rline
  split
  · exact ⟨by simp, by simp, fun p hp => by simp at hp⟩
  · rename_i l hl
    match l with
    | [] => exact rstmt_ok [] [] (by simp)
    | [p] => exact rstmt_ok [] [p] (by simp)
    | p :: q :: l =>
      simp only [rlineP]
      split
      · split
        · rename_i hn
          exact rstmt_ok _ _ (isNm_len hn)
        · exact ⟨by simp, by simp, fun p hp => by simp at hp⟩
      · exact rstmt_ok [] _ (by simp)
def rupto (ss : List (List UInt8)) : Nat → List Qt × List (List UInt8 × Nat)
  | 0 => ([], [])
  | j + 1 => (addP (ss.getD j []) (j + 1) (rupto ss j).1 (rupto ss j).2).2
structure RdOk (j : Nat) (l : List Qt) (N : List (List UInt8 × Nat)) : Prop where
  len : l.length ≤ 2 * j
  nl : N.length ≤ j
  pt : ∀ x ∈ l, PtOk x.p
  at' : ∀ p ∈ N, p.2 ≤ l.length
theorem addP_ok {j : Nat} {l : List Qt} {N : List (List UInt8 × Nat)} (h : RdOk j l N) (s : List UInt8) (n : Int) : RdOk (j + 1) (addP s n l N).2.1 (addP s n l N).2.2 := by
  obtain ⟨h1, h2, h3⟩ := rline_ok s
  have h4 := h.len
  have h5 := h.nl
  unfold addP
  split
  · split
    · refine ⟨by simp; omega, by simp only; omega, fun x hx => ?_, fun p hp => ?_⟩
      · rcases List.mem_append.1 hx with hx | hx
        · exact h.pt x hx
        · obtain ⟨p, hp, rfl⟩ := List.mem_map.1 hx
          exact h3 p hp
      · have := h.at' p hp; simp; omega
    · split
      · exact ⟨by simp only; omega, by simp only; omega, h.pt, h.at'⟩
      · refine ⟨by simp; omega, by simp; omega, fun x hx => ?_, fun p hp => ?_⟩
        · rcases List.mem_append.1 hx with hx | hx
          · exact h.pt x hx
          · obtain ⟨p, hp, rfl⟩ := List.mem_map.1 hx
            exact h3 p hp
        · rcases List.mem_append.1 hp with hp | hp
          · have := h.at' p hp; simp; omega
          · have e : p = ((rline s).1, l.length) := by simpa using hp
            subst e
            simp
  · exact ⟨by simp only; omega, by simp only; omega, h.pt, h.at'⟩
theorem rupto_ok (ss : List (List UInt8)) : ∀ j, RdOk j (rupto ss j).1 (rupto ss j).2
  | 0 => ⟨by simp [rupto], by simp [rupto], fun x hx => by simp [rupto] at hx, fun p hp => by simp [rupto] at hp⟩
  | j + 1 => addP_ok (rupto_ok ss j) _ _
end Pn
