import Derived.Test.YtbmcofdodfcnnaaGreatDoorGPW
namespace Pn
open Go
theorem rnds_plain {N : List (List UInt8 × Nat)} : ∀ (m : Nat) {l : List Qt} {k : Nat} {x : Qt}, l[k]? = some x → x.p.tg = [] → (rnds N m l)[k]? = some x
  | 0, _, _, _, h, _ => h
  | m + 1, l, k, x, h, ht => by
    rw [rnds]
    refine rnds_plain m ?_ ht
    unfold rnd
    rw [grw_at h]
    have hm : mustG (plqs l l.length) N k x = false := by simp [mustG, ht]
    simp [hm]
theorem plq_succ (l : List Qt) (k : Nat) : plq l (k + 1) = plq l k + (match l[k]? with | some x => x.size | none => 0) := rfl
theorem plq_even {l : List Qt} (h : ∀ x ∈ l, x.size = 2 ∨ x.size = 4) : ∀ k, plq l k % 2 = 0 := by
  intro k
  induction k with
  | zero => rfl
  | succ k ih =>
    rw [plq_succ]
    cases hx : l[k]? with
    | none => simpa using ih
    | some x =>
      have := h x (List.mem_of_getElem? hx)
      simp only
      omega
theorem enc_right {i : Ins} (h : right i = true) : (enc i).2 = 0 := by unfold enc; rw [if_pos h]
def pQ (l : List Sta) : List Qt := qUp l (l.length + 2)
def pN (l : List Sta) : List (List UInt8 × Nat) := nUp l (l.length + 2)
def pL (l : List Sta) (short : Bool) : List Qt := layF (pN l) (fszs short (pQ l) (pQ l).length)
theorem pQ_len (l : List Sta) (h : l.length ≤ 24) : (pQ l).length ≤ 52 := by have := (qUp_len l (l.length + 2)).2; unfold pQ; omega
theorem pL_len (l : List Sta) (short : Bool) : (pL l short).length = (pQ l).length := by unfold pL; rw [layF_len, fszs_len]
theorem pQ_ok {l : List Sta} (h : ∀ x ∈ l, StaOk l.length x) : ∀ q ∈ pQ l, PartOk l.length q.p := fun q hq => by
  obtain ⟨k, _, hp⟩ := qUp_mem _ q hq
  exact parts_ok h hp
theorem pQ_sz {l : List Sta} (h : ∀ x ∈ l, StaOk l.length x) (short : Bool) : SzOk (fszs short (pQ l) (pQ l).length) := fszs_ok fun x hx => by rw [(pQ_ok h x hx).1]; simp
theorem pL_at {l : List Sta} (h : ∀ x ∈ l, StaOk l.length x) {short : Bool} {k : Nat} {x : Qt} (hx : (pL l short)[k]? = some x) :
    PartOk l.length x.p ∧ (x.size = 2 ∨ x.size = 4) ∧ (x.p.tg = [] → x.size = 2 → short = true ∧ (shortP x.p.ins).2 = 0) := by
  obtain ⟨y, hy⟩ := at_len (pL_len l short) hx
  have hyo := pQ_ok h y (List.mem_of_getElem? hy)
  have hf : (fszs short (pQ l) (pQ l).length)[k]? = some ⟨y.p, y.line, fsz short y.p⟩ := by rw [fszs_at hy, if_pos (List.getElem?_eq_some_iff.1 hy).1]
  have hp := (rnds_p _ k x _ hx hf).1
  have hsz := rnds_i (N := pN l) (4 * (fszs short (pQ l) (pQ l).length).length + 1) (fszs_i short (pQ l))
  rw [show x.p = y.p from hp]
  refine ⟨hyo, hsz x (List.mem_of_getElem? hx) (by rw [hp]; exact hyo.1), fun ht h2 => ?_⟩
  have hr := rnds_plain (N := pN l) (4 * (fszs short (pQ l) (pQ l).length).length + 1) hf ht
  have hx' : (rnds (pN l) (4 * (fszs short (pQ l) (pQ l).length).length + 1) (fszs short (pQ l) (pQ l).length))[k]? = some x := hx
  rw [hr] at hx'
  injection hx' with e
  rw [← e] at h2
  simp only [fsz, hyo.1, if_true] at h2
  split at h2
  · rename_i hc
    rcases hc.2 with hc2 | hc2
    · exact absurd ht hc2
    · exact ⟨hc.1, hc2⟩
  · omega
def pI (l : List Sta) (short : Bool) (k : Nat) (p : Prt) : Ins := plcI (plqs (pL l short) (pL l short).length) (pN l) k p
theorem pL_all {l : List Sta} (h : ∀ x ∈ l, StaOk l.length x) (short : Bool) : ∀ x ∈ pL l short, x.size = 2 ∨ x.size = 4 := fun x hx => by
  obtain ⟨k, hk⟩ := List.getElem?_of_mem hx
  exact (pL_at h hk).2.1
theorem pL_szok {l : List Sta} (h : ∀ x ∈ l, StaOk l.length x) (short : Bool) : SzOk (pL l short) := fun x hx => by
  rcases pL_all h short x hx with e | e <;> omega
theorem pL_ins {l : List Sta} (h : ∀ x ∈ l, StaOk l.length x) (hl : l.length ≤ 24) {short : Bool} {k : Nat} {x : Qt} (hx : (pL l short)[k]? = some x) :
    right (pI l short k x.p) = true ∧ (x.size = 2 → (shortP (pI l short k x.p)).2 = 0) ∧
      ((x.p.tg = [] ∧ noBr (pI l short k x.p).op) ∨ ∃ j, j < (pL l short).length ∧ (pI l short k x.p).imm = plq (pL l short) j - plq (pL l short) k) := by
  obtain ⟨⟨hd, ho⟩, hs, hsh⟩ := pL_at h hx
  have hk := (List.getElem?_eq_some_iff.1 hx).1
  have hlen := pL_len l short
  have hq := pQ_len l hl
  rcases ho with ⟨ht, hr, hb⟩ | ⟨t, htl, ht, hr⟩
  · have e : pI l short k x.p = x.p.ins := by simp [pI, plcI, ht]
    rw [e]
    exact ⟨hr, fun h2 => (hsh ht h2).2, .inl ⟨ht, hb⟩⟩
  · have hi : nmI (pN l) x.p.tg = (qUp l (t + 1)).length := by
      unfold nmI pN
      rw [ht, nUp_look l (by omega) _ (by omega), if_pos (by omega)]
      rfl
    have hle : (qUp l (t + 1)).length < (pL l short).length := by
      rw [hlen]
      have hmono : ∀ d, (qUp l (t + 1)).length + d ≤ (qUp l (t + 1 + d)).length := fun d => by
        induction d with
        | zero => simp
        | succ d ih =>
          have h1 := parts_len l (t + 1 + d)
          have e : (qUp l (t + 1 + d + 1)).length = (qUp l (t + 1 + d)).length + (partsAt l (t + 1 + d)).length := by
            rw [show qUp l (t + 1 + d + 1) = qUp l (t + 1 + d) ++ (partsAt l (t + 1 + d)).map (fun p => ⟨p, ((t + 1 + d : Nat) : Int) + 1, 0⟩) from rfl, List.length_append, List.length_map]
          rw [show t + 1 + (d + 1) = (t + 1 + d) + 1 by omega, e]
          omega
      have := hmono (l.length + 2 - (t + 1))
      rw [show t + 1 + (l.length + 2 - (t + 1)) = l.length + 2 by omega] at this
      unfold pQ
      omega
    have e : pI l short k x.p = ⟨x.p.ins.op, x.p.ins.rd, x.p.ins.rs1, x.p.ins.rs2, plq (pL l short) (qUp l (t + 1)).length - plq (pL l short) k⟩ := by
      unfold pI plcI
      rw [if_neg (by rw [ht]; exact nm_ne t), hi, plqs_at _ _ _ (by omega), plqs_at _ _ _ (by omega)]
    have e1 := plq_even (pL_all h short) (qUp l (t + 1)).length
    have e2 := plq_even (pL_all h short) k
    have b1 := plq_bd (pL_szok h short) (qUp l (t + 1)).length
    have b2 := plq_bd (pL_szok h short) k
    have hR : right (pI l short k x.p) = true := by
      rw [e]
      exact hr _ (by omega) (by omega) (by omega)
    refine ⟨hR, fun h2 => ?_, .inr ⟨_, hle, by rw [e]⟩⟩
    have hdn := lay_done (N := pN l) (pQ_sz h short)
    have hm : mustG (plqs (pL l short) (pL l short).length) (pN l) k x = false := by
      have := List.any_eq_false.1 (show (List.range (pL l short).length).any _ = false from hdn) k (by simpa using hk)
      have hx' : (layF (pN l) (fszs short (pQ l) (pQ l).length))[k]? = some x := hx
      rw [hx'] at this
      unfold pL
      simpa using this
    have hne : x.p.tg.isEmpty = false := by rw [ht]; rfl
    have h3 : (x.size == 2) = true := by rw [h2]; rfl
    unfold mustG at hm
    rw [hne, h3] at hm
    simpa [pI] using hm
end Pn
namespace Pn
open Go
def bI (i : Ins) (size : Int) : List UInt8 := if size = 2 then bytN 2 (shortP i).1 else bytN 4 (enc i).1
def bAll (l : List Sta) (short : Bool) (k : Nat) : List UInt8 := match (pL l short)[k]? with | some x => bI (pI l short k x.p) x.size | none => []
theorem pL_by {l : List Sta} (h : ∀ x ∈ l, StaOk l.length x) (hl : l.length ≤ 24) {short : Bool} {k : Nat} {x : Qt} (hx : (pL l short)[k]? = some x) :
    byq (plqs (pL l short) (pL l short).length) (pN l) k x = some (bAll l short k) ∧ ((bAll l short k).length : Int) = x.size := by
  obtain ⟨⟨hd, _⟩, hs, _⟩ := pL_at h hx
  obtain ⟨hr, h2, _⟩ := pL_ins h hl hx
  have e : bAll l short k = bI (pI l short k x.p) x.size := by unfold bAll; rw [hx]
  rw [e]
  unfold byq bI
  rw [if_pos hd]
  rcases hs with e2 | e4
  · rw [if_pos e2, if_pos e2]
    have := h2 e2
    unfold pI at this ⊢
    rw [if_pos this, e2]
    exact ⟨rfl, by simp [bytN]⟩
  · have hne : ¬ x.size = 2 := by omega
    rw [if_neg hne, if_neg hne]
    have := enc_right hr
    unfold pI at this ⊢
    rw [if_pos this, e4]
    exact ⟨rfl, by simp [bytN]⟩
theorem asm_prog {l : List Sta} (h : ∀ x ∈ l, StaOk l.length x) (hl : l.length ≤ 24) (short : Bool) : asmP (linesAll l) short = ((List.range (pL l short).length).flatMap (bAll l short), 0, 0) ∧ ∀ j, j ≤ (pL l short).length → plq (pL l short) j = ((List.range j).flatMap (bAll l short)).length := by
  have hT := Go.Proofs.YtbmcofdodfcnnaaGreatDoor.byqs_take (P := plqs (pL l short) (pL l short).length) (N := pN l) (L := pL l short) (g := bAll l short) (fun k x hx => pL_by h hl hx)
  refine ⟨?_, fun j hj => (hT j hj).2⟩
  have hb := plq_bd (pL_szok h short) (pL l short).length
  have hlen := pL_len l short
  have hq := pQ_len l hl
  unfold asmP
  rw [rdP_prog h hl]
  simp only [if_true]
  show (if 1024 < plq (pL l short) (pQ l).length then _ else bysQ (plqs (pL l short) (pQ l).length) (pN l) (pL l short)) = _
  rw [← hlen, if_neg (by omega)]
  unfold bysQ
  rw [find_none _ _ (fun k hk => by
    obtain ⟨x, hx⟩ : ∃ x, (pL l short)[k]? = some x := ⟨_, List.getElem?_eq_getElem hk⟩
    simp only [badAt, hx, (pL_by h hl hx).1]
    rfl)]
  simp only
  rw [(hT _ (Nat.le_refl _)).1]
end Pn
namespace Pn
open Go
theorem line_fine {n k : Nat} {x : Sta} (h : StaOk n x) (hn : n < 100) (hk : k < 100) : Fine 68 (lineT k x) := by
  have := ((fine_nm hk).app (fine_lit (l := [58, 32]) (m := 2) (by decide) (by decide))).app (sta_fine h hn)
  exact ⟨this.1, Nat.le_trans this.2 (by decide)⟩
theorem lines_fine {n : Nat} (hn : n < 100) : ∀ (l : List Sta) (k : Nat), (∀ x ∈ l, StaOk n x) → k + l.length < 100 → (∀ T ∈ linesP k l, ∀ c ∈ T, c ≠ 10) ∧ ((linesP k l).flatMap (· ++ [10])).length ≤ 69 * l.length
  | [], k, _, _ => ⟨(fun T h => by cases h), by simp [linesP]⟩
  | x :: l, k, h, hk => by
    rw [List.length_cons] at hk
    obtain ⟨i1, i2⟩ := lines_fine hn l (k + 1) (fun y hy => h y (List.mem_cons_of_mem _ hy)) (by omega)
    have hf := line_fine (k := k) (h x List.mem_cons_self) hn (by omega)
    refine ⟨fun T hT => ?_, ?_⟩
    · rcases List.mem_cons.1 hT with rfl | hT
      · exact fun c hc => (hf.1 c hc).1
      · exact i1 T hT
    · rw [linesP, List.flatMap_cons]
      have h2 := hf.2
      simp only [List.length_append, List.length_cons, List.length_nil]
      omega
theorem last_fine {n : Nat} (h : n < 100) : Fine 11 (lastT n) := by
  have := (fine_nm h).app (fine_lit (l := [58, 32, 101, 98, 114, 101, 97, 107]) (m := 8) (by decide) (by decide))
  exact ⟨this.1, Nat.le_trans this.2 (by decide)⟩
theorem prog_len {l : List Sta} (h : ∀ x ∈ l, StaOk l.length x) (hl : l.length ≤ 24) : (progT l).length ≤ 2000 := by
  obtain ⟨_, h2⟩ := lines_fine (by omega) l 0 h (by omega)
  have h3 := (last_fine (n := l.length) (by omega)).2
  rw [progT_lines, List.flatMap_cons, List.length_append, List.length_append, List.length_append]
  have e : firstT.length = 12 := rfl
  have e1 : ([10] : List UInt8).length = 1 := rfl
  omega
theorem prog_split {l : List Sta} (h : ∀ x ∈ l, StaOk l.length x) (hl : l.length ≤ 24) : Lib.splitK [10] 0 (Lib.count (progT l) [10]) (progT l) = linesAll l := by
  obtain ⟨h1, _⟩ := lines_fine (by omega) l 0 h (by omega)
  rw [progT_lines]
  exact split_last (firstT :: linesP 0 l) (lastT l.length) (fun T hT => by
    rcases List.mem_cons.1 hT with rfl | hT
    · decide
    · exact h1 T hT) (fun c hc => ((last_fine (n := l.length) (by omega)).1 c hc).1)
end Pn
namespace Go.Proofs.YtbmcofdodfcnnaaGreatDoor
open Go.RowKit
theorem asmA_prog {l : List Pn.Sta} (h : ∀ x ∈ l, Pn.StaOk l.length x) (hl : l.length ≤ 24) (short : Bool) {s : ByteArray} (hs : s.data.toList = Pn.progT l) : asmA s short = ((List.range (Pn.pL l short).length).flatMap (Pn.bAll l short), 0, 0) := by
  have hsz : s.size ≤ 2000 := by
    have := Pn.prog_len h hl
    rw [← hs, size_list] at this
    exact this
  unfold asmA
  rw [if_neg (by omega)]
  have hL : linesOf s = Pn.linesAll l := by
    unfold linesOf
    rw [Lib.splitB_data]
    have hc : Lib.countB s ⟨#[10]⟩ = Lib.count (Pn.progT l) [10] := by rw [← hs]
    rw [hc, hs]
    exact Pn.prog_split h hl
  rw [hL]
  exact (Pn.asm_prog h hl short).1
end Go.Proofs.YtbmcofdodfcnnaaGreatDoor
