import Derived.Test.YtbmcofdodfcnnaaGreatDoorGQB
import Derived.Test.YtbmcofdodfcnnaaGreatDoorGUP
namespace Pn
open Go
theorem load31 : loadP 31 2048 = [⟨[], ⟨60, 31, 0, 0, 1⟩, []⟩, ⟨[], ⟨38, 31, 31, 0, -2048⟩, []⟩] := rfl
theorem qUp_one (l : List Sta) : qUp l 1 = [⟨⟨[], ⟨60, 31, 0, 0, 1⟩, []⟩, 1, 0⟩, ⟨⟨[], ⟨38, 31, 31, 0, -2048⟩, []⟩, 1, 0⟩] := by
  simp [qUp, partsAt, load31]
theorem qUp_pre (l : List Sta) (m : Nat) : ∀ d, ∃ r, qUp l (m + d) = qUp l m ++ r
  | 0 => ⟨[], by simp⟩
  | d + 1 => by
    obtain ⟨r, hr⟩ := qUp_pre l m d
    exact ⟨r ++ (partsAt l (m + d)).map (fun p => ⟨p, ((m + d : Nat) : Int) + 1, 0⟩), by rw [show m + (d + 1) = (m + d) + 1 by omega, qUp, hr, List.append_assoc]⟩
theorem qUp_ge (l : List Sta) (t : Nat) : 2 ≤ (qUp l (t + 1)).length := by
  obtain ⟨r, hr⟩ := qUp_pre l 1 t
  rw [show t + 1 = 1 + t by omega, hr, qUp_one]
  simp
theorem qUp_up {l : List Sta} {m k : Nat} {q : Qt} : ∀ d, (qUp l m)[k]? = some q → (qUp l (m + d))[k]? = some q := fun d h => by
  obtain ⟨r, hr⟩ := qUp_pre l m d
  rw [hr, List.getElem?_append_left (List.getElem?_eq_some_iff.1 h).1]
  exact h
theorem qUp_from {l : List Sta} : ∀ (m : Nat) {k : Nat} {q : Qt}, (qUp l (m + 1))[k]? = some q → (k = 0 ∧ q.p = ⟨[], ⟨60, 31, 0, 0, 1⟩, []⟩) ∨ (k = 1 ∧ q.p = ⟨[], ⟨38, 31, 31, 0, -2048⟩, []⟩) ∨ (2 ≤ k ∧ ∃ j, 1 ≤ j ∧ j ≤ m ∧ q.p ∈ partsAt l j)
  | 0, k, q, h => by
    rw [Nat.zero_add, qUp_one] at h
    rcases k with _ | _ | k
    · left; simp at h; exact ⟨rfl, by rw [← h]⟩
    · right; left; simp at h; exact ⟨rfl, by rw [← h]⟩
    · simp at h
  | m + 1, k, q, h => by
    rcases Nat.lt_or_ge k (qUp l (m + 1)).length with hk | hk
    · rw [show qUp l (m + 1 + 1) = qUp l (m + 1) ++ (partsAt l (m + 1)).map (fun p => ⟨p, ((m + 1 : Nat) : Int) + 1, 0⟩) from rfl, List.getElem?_append_left hk] at h
      rcases qUp_from m h with h | h | ⟨h1, j, h2, h3, h4⟩
      · exact .inl h
      · exact .inr (.inl h)
      · exact .inr (.inr ⟨h1, j, h2, by omega, h4⟩)
    · rw [show qUp l (m + 1 + 1) = qUp l (m + 1) ++ (partsAt l (m + 1)).map (fun p => ⟨p, ((m + 1 : Nat) : Int) + 1, 0⟩) from rfl, List.getElem?_append_right hk] at h
      have hm := List.mem_of_getElem? h
      obtain ⟨p, hp, rfl⟩ := List.mem_map.1 hm
      exact .inr (.inr ⟨Nat.le_trans (qUp_ge l m) hk, m + 1, by omega, by omega, hp⟩)
def MidOk (i : Ins) : Prop := right i = true ∧ (i.rd = 0 ∨ regOk i.rd) ∧ ((1 ≤ i.op ∧ i.op ≤ 41) ∨ (((42 ≤ i.op ∧ i.op ≤ 48) ∨ (50 ≤ i.op ∧ i.op ≤ 53)) ∧ i.rs1 = 31 ∧ 0 ≤ i.imm ∧ i.imm < 2000) ∨ i.op = 60)
theorem load_mid {r n : Int} (hr : regOk r) (h0 : -2147483648 ≤ n) (h1 : n < 2147483648) {p : Prt} (hm : p ∈ loadP r n) : p.tg = [] ∧ MidOk p.ins := by
  obtain ⟨_, g1, g2, _⟩ := load_ok (r := r) (n := n) ⟨by have := hr.1; omega, by have := hr.2; omega⟩ h0 h1 hm
  refine ⟨g1, g2, ?_⟩
  unfold loadP at hm
  split at hm
  · simp only [List.mem_singleton] at hm
    rw [hm]
    exact ⟨.inr hr, .inl ⟨by simp, by simp⟩⟩
  · rcases List.mem_cons.1 hm with rfl | hm
    · exact ⟨.inr hr, .inr (.inr rfl)⟩
    · split at hm
      · cases hm
      · simp only [List.mem_singleton] at hm
        rw [hm]
        exact ⟨.inr hr, .inl ⟨by simp, by simp⟩⟩
def TgOk (n : Nat) (p : Prt) : Prop := ∃ t, t ≤ n ∧ p.tg = nmL t ∧ p.ins.rd = 0 ∧ ((54 ≤ p.ins.op ∧ p.ins.op ≤ 59 ∧ (0 ≤ p.ins.rs1 ∧ p.ins.rs1 ≤ 31) ∧ (0 ≤ p.ins.rs2 ∧ p.ins.rs2 ≤ 31)) ∨ (p.ins.op = 62 ∧ p.ins.rs1 = 0 ∧ p.ins.rs2 = 0))
theorem parts_mid {l : List Sta} (h : ∀ x ∈ l, StaOk l.length x) {j : Nat} {p : Prt} (h1 : 1 ≤ j) (hj : j ≤ l.length) (hp : p ∈ partsAt l j) : (p.tg = [] ∧ MidOk p.ins) ∨ TgOk l.length p := by
  unfold partsAt at hp
  rw [if_neg (by omega)] at hp
  have hx : l[j - 1]? = some l[j - 1] := List.getElem?_eq_getElem (by omega)
  rw [hx] at hp
  have hxo := h _ (List.mem_of_getElem? hx)
  generalize l[j - 1] = x at hp hxo
  simp only at hp
  obtain ⟨kind, ⟨op, rd, rs1, rs2, imm⟩, tg⟩ := x
  unfold partsOf at hp
  rcases hxo with ⟨h0, ⟨k, h1, h2⟩, ⟨h3, h3'⟩, h4, h5⟩ | ⟨h0, h1⟩ | ⟨h0, hr, h2, h3⟩ | ⟨h0, ⟨k, g1, g2⟩, h2, h3, h4, h5⟩
  · simp only at h0 h1 h3 h3' h4 h5
    subst h0 h1
    have hc : 0 ≤ rs2 ∧ rs2 ≤ 31 := by
      rcases h4 with e | ⟨e1, e2⟩ <;> omega
    simp only [if_true, List.mem_singleton] at hp
    rw [hp]
    exact .inr ⟨tg, h5, rfl, rfl, .inl ⟨by simp only; omega, by simp only; omega, ⟨by simp only; omega, by simp only; omega⟩, hc⟩⟩
  · simp only at h0 h1
    subst h0
    simp only [Nat.one_ne_zero, if_false, if_true, List.mem_singleton] at hp
    rw [hp]
    exact .inr ⟨tg, h1, rfl, rfl, .inr ⟨rfl, rfl, rfl⟩⟩
  · simp only at h0 hr h2 h3
    subst h0
    simp at hp
    exact .inl (load_mid hr h2 h3 hp)
  · simp only at h0 g2 h2 h3 h4 h5
    subst h0
    simp at hp
    rw [hp]
    refine .inl ⟨rfl, h2, h3, ?_⟩
    simp only
    have e : (op - 1).toNat = k := by omega
    rw [e] at h4 h5
    have hall : ∀ j ∈ plainOps, (j ≤ 40 ∧ ¬ ((row j).kind = 76 ∨ (row j).kind = 83)) ∨ (((41 ≤ j ∧ j ≤ 47) ∨ (49 ≤ j ∧ j ≤ 52)) ∧ ((row j).kind = 76 ∨ (row j).kind = 83)) := by decide
    rcases hall k g1 with ⟨q1, q2⟩ | ⟨q1, q2⟩
    · exact .inl ⟨by omega, by omega⟩
    · exact .inr (.inl ⟨by omega, h4 q2⟩)
theorem pL_part {l : List Sta} {short : Bool} {k : Nat} {x y : Qt} (hx : (pL l short)[k]? = some x) (hy : (pQ l)[k]? = some y) : x.p = y.p := by
  have hf : (fszs short (pQ l) (pQ l).length)[k]? = some ⟨y.p, y.line, fsz short y.p⟩ := by rw [fszs_at hy, if_pos (List.getElem?_eq_some_iff.1 hy).1]
  exact (rnds_p _ k x _ hx hf).1
theorem pI_tg {l : List Sta} (hl : l.length ≤ 24) (short : Bool) {k t : Nat} {p : Prt} (hk : k < (pQ l).length) (ht : p.tg = nmL t) (htl : t ≤ l.length) :
    pI l short k p = ⟨p.ins.op, p.ins.rd, p.ins.rs1, p.ins.rs2, plq (pL l short) (qUp l (t + 1)).length - plq (pL l short) k⟩ ∧ (qUp l (t + 1)).length < (pQ l).length := by
  have hlen := pL_len l short
  have hi : nmI (pN l) p.tg = (qUp l (t + 1)).length := by
    unfold nmI pN
    rw [ht, nUp_look l (by omega) _ (by omega), if_pos (by omega)]
    rfl
  have hle : (qUp l (t + 1)).length < (pQ l).length := by
    obtain ⟨r, hr⟩ := qUp_pre l (t + 2) (l.length - t)
    have h1 := parts_len l (t + 1)
    have e : (qUp l (t + 2)).length = (qUp l (t + 1)).length + (partsAt l (t + 1)).length := by
      rw [show qUp l (t + 2) = qUp l (t + 1) ++ (partsAt l (t + 1)).map (fun p => ⟨p, ((t + 1 : Nat) : Int) + 1, 0⟩) from rfl, List.length_append, List.length_map]
    unfold pQ
    rw [show l.length + 2 = t + 2 + (l.length - t) by omega, hr, List.length_append]
    omega
  refine ⟨?_, hle⟩
  unfold pI plcI
  rw [if_neg (by rw [ht]; exact nm_ne t), hi, plqs_at _ _ _ (by omega), plqs_at _ _ _ (by omega)]
theorem pQ_last (l : List Sta) : (pQ l).length = (qUp l (l.length + 1)).length + 1 ∧ (pQ l)[(qUp l (l.length + 1)).length]? = some ⟨⟨[], brkI, []⟩, ((l.length + 1 : Nat) : Int) + 1, 0⟩ := by
  have e : pQ l = qUp l (l.length + 1) ++ [⟨⟨[], brkI, []⟩, ((l.length + 1 : Nat) : Int) + 1, 0⟩] := by
    unfold pQ
    rw [show qUp l (l.length + 2) = qUp l (l.length + 1) ++ (partsAt l (l.length + 1)).map (fun p => ⟨p, ((l.length + 1 : Nat) : Int) + 1, 0⟩) from rfl]
    have e2 : partsAt l (l.length + 1) = [⟨[], brkI, []⟩] := by
      unfold partsAt
      simp
    rw [e2]
    rfl
  rw [e]
  exact ⟨by simp, by simp⟩
theorem pQ_mid {l : List Sta} {k : Nat} (hk : k < (qUp l (l.length + 1)).length) : ∃ y, (pQ l)[k]? = some y ∧ (qUp l (l.length + 1))[k]? = some y := by
  have h1 : (qUp l (l.length + 1))[k]? = some (qUp l (l.length + 1))[k] := List.getElem?_eq_getElem hk
  exact ⟨_, qUp_up 1 h1, h1⟩
end Pn
namespace Go.Proofs.YtbmcofdodfcnnaaGreatDoor
open Go.RowKit
def PairX (xs ys : List IX) (k : Nat) (a b : Pn.Ins) : Prop :=
  (k = 0 ∧ a = ⟨60, 31, 0, 0, 1⟩ ∧ b = a ∧ k + 1 < xs.length) ∨ (k = 1 ∧ a = ⟨38, 31, 31, 0, -2048⟩ ∧ b = a ∧ k + 1 < xs.length) ∨ (2 ≤ k ∧ a = ⟨64, 0, 0, 0, 0⟩ ∧ b = a) ∨ (2 ≤ k ∧ Pn.MidOk a ∧ b = a ∧ k + 1 < xs.length) ∨
  (2 ≤ k ∧ k + 1 < xs.length ∧ ∃ (J : Nat) (op r1 r2 : Int), 2 ≤ J ∧ J < xs.length ∧ a = ⟨op, 0, r1, r2, (placeX xs J : Int) - placeX xs k⟩ ∧ b = ⟨op, 0, r1, r2, (placeX ys J : Int) - placeX ys k⟩ ∧
    ((54 ≤ op ∧ op ≤ 59 ∧ (0 ≤ r1 ∧ r1 ≤ 31) ∧ (0 ≤ r2 ∧ r2 ≤ 31)) ∨ (op = 62 ∧ r1 = 0 ∧ r2 = 0)))
theorem prog_pair {l : List Pn.Sta} (h : ∀ x ∈ l, Pn.StaOk l.length x) (hl : l.length ≤ 24) {k : Nat} (hk : k < (pX l false).length) :
    ∃ (a b : Pn.Ins) (sa sb : Int), (pX l false)[k]? = some (a, sa) ∧ (pX l true)[k]? = some (b, sb) ∧ PairX (pX l false) (pX l true) k a b := by
  have hl1 : ∀ s, (pX l s).length = (Pn.pQ l).length := fun s => by simp [pX, Pn.pL_len]
  have hkq : k < (Pn.pQ l).length := by rw [← hl1 false]; exact hk
  have hget : ∀ s y, (Pn.pQ l)[k]? = some y → ∃ sz, (pX l s)[k]? = some (Pn.pI l s k y.p, sz) := fun s y hy => by
    obtain ⟨x, hx⟩ := Pn.at_len (Pn.pL_len l s).symm hy
    refine ⟨x.size, ?_⟩
    unfold pX
    rw [List.getElem?_mapIdx, hx, Option.map_some, Pn.pL_part hx hy]
  obtain ⟨hlast, hbrk⟩ := Pn.pQ_last l
  have hplain : ∀ s (p : Pn.Prt), p.tg = [] → Pn.pI l s k p = p.ins := fun s p hp => by simp [Pn.pI, Pn.plcI, hp]
  rcases Nat.lt_or_ge k (Pn.qUp l (l.length + 1)).length with hm | hm
  · obtain ⟨y, hy, hy2⟩ := Pn.pQ_mid hm
    obtain ⟨sa, ha⟩ := hget false y hy
    obtain ⟨sb, hb⟩ := hget true y hy
    have hk1 : k + 1 < (pX l false).length := by rw [hl1]; omega
    refine ⟨_, _, sa, sb, ha, hb, ?_⟩
    rcases Pn.qUp_from l.length hy2 with ⟨h0, hp⟩ | ⟨h0, hp⟩ | ⟨h0, j, j1, j2, hp⟩
    · left
      rw [hplain false y.p (by rw [hp]), hplain true y.p (by rw [hp]), hp]
      exact ⟨h0, rfl, rfl, hk1⟩
    · right; left
      rw [hplain false y.p (by rw [hp]), hplain true y.p (by rw [hp]), hp]
      exact ⟨h0, rfl, rfl, hk1⟩
    · rcases Pn.parts_mid h j1 j2 hp with ⟨g1, g2⟩ | ⟨t, htl, htg, hrd, hop⟩
      · right; right; right; left
        rw [hplain false y.p g1, hplain true y.p g1]
        exact ⟨h0, g2, rfl, hk1⟩
      · right; right; right; right
        obtain ⟨e1, e2⟩ := Pn.pI_tg hl false hkq htg htl
        obtain ⟨e3, _⟩ := Pn.pI_tg hl true hkq htg htl
        have hJ : ∀ s, (Pn.qUp l (t + 1)).length ≤ (Pn.pL l s).length := fun s => by rw [Pn.pL_len]; omega
        have hK : ∀ s, k ≤ (Pn.pL l s).length := fun s => by rw [Pn.pL_len]; omega
        rw [plq_place h hl false (hJ false), plq_place h hl false (hK false), hrd] at e1
        rw [plq_place h hl true (hJ true), plq_place h hl true (hK true), hrd] at e3
        exact ⟨h0, hk1, _, _, _, _, Pn.qUp_ge l t, by rw [hl1]; exact e2, e1, e3, hop⟩
  · have hke : k = (Pn.qUp l (l.length + 1)).length := by omega
    have hy : (Pn.pQ l)[k]? = some ⟨⟨[], Pn.brkI, []⟩, ((l.length + 1 : Nat) : Int) + 1, 0⟩ := by rw [hke]; exact hbrk
    obtain ⟨sa, ha⟩ := hget false _ hy
    obtain ⟨sb, hb⟩ := hget true _ hy
    refine ⟨_, _, sa, sb, ha, hb, ?_⟩
    right; right; left
    rw [hplain false _ rfl, hplain true _ rfl]
    exact ⟨by have := Pn.qUp_ge l l.length; omega, rfl, rfl⟩
end Go.Proofs.YtbmcofdodfcnnaaGreatDoor
namespace Go.Proofs.YtbmcofdodfcnnaaGreatDoor
open Go.RowKit
def StepsTo (xs : List IX) (k : Nat) (mem regs : List Int) (u v : Int) (mem' regs' : List Int) (pc' : Int) : Prop :=
  ∀ (b : Nat) (T : TypeId) (w : World), IsM T b mem regs (placeX xs k : Int) w → Calls Tryz.prog 27 #[.pointer (some ⟨b, 0, none⟩)] w fun e w' => e = .returned (evV u v) ∧ IsM T b mem' regs' pc' w' ∧ Kept b w w'
theorem steps_of {xs : List IX} {k : Nat} {x : IX} {mem regs mem' regs' : List Int} {u v pc' : Int} (hx : xs[k]? = some x) (hok : ∀ x ∈ xs, XOk x)
    (hm : ∀ j, j < (xs.flatMap bX).length → mem.getD j 0 = byN (xs.flatMap bX) j) (hl : (xs.flatMap bX).length ≤ 2048)
    (hdo : ∀ (b : Nat) (T : TypeId) (w1 : World), IsM T b mem regs (placeX xs k : Int) w1 → Calls Tryz.prog 90 #[.pointer (some ⟨b, 0, none⟩), x.1.val, .int .i64 (placeX xs k + x.2)] w1 fun e w' => e = .returned (evV u v) ∧ IsM T b mem' regs' pc' w' ∧ Kept b w1 w') :
    StepsTo xs k mem regs u v mem' regs' pc' := fun b T w h =>
  pstep_is b u v w h fun w1 h1 => step_code b u v w1 hx hok hm hl h1 (hdo b T)
theorem place_next {xs : List IX} {k : Nat} {x : IX} (hx : xs[k]? = some x) (hok : ∀ x ∈ xs, XOk x) : ((placeX xs (k + 1) : Nat) : Int) = placeX xs k + x.2 := by
  have ho := hok x (List.mem_of_getElem? hx)
  rw [place_succ hx, bX_len ho]
  rcases ho.2.1 with e | e <;> omega
theorem rset_get (regs : List Int) (k : Nat) (v : Int) (r : Nat) : (rset regs k v).getD r 0 = if r = k ∧ k ≠ 0 ∧ k < regs.length then v else regs.getD r 0 := by
  unfold rset
  split
  · rename_i h
    rw [if_neg (by omega)]
  · rename_i h
    rw [List.getD_eq_getElem?_getD, List.getElem?_set, List.getD_eq_getElem?_getD]
    by_cases e : k = r
    · subst e
      by_cases hl : k < regs.length
      · simp [hl, h]
      · simp [hl]
    · rw [if_neg e, if_neg (by omega)]
theorem rset_len (regs : List Int) (k : Nat) (v : Int) : (rset regs k v).length = regs.length := by
  unfold rset; split <;> simp
theorem byt_eq {mx my : List Int} (hl : mx.length = my.length) {a : Nat} (h : ∀ j, a ≤ j → mx.getD j 0 = my.getD j 0) (n : Nat) : byt mx a n = byt my a n := by
  unfold byt
  have e : mx.drop a = my.drop a := by
    refine List.ext_getElem? fun j => ?_
    rw [List.getElem?_drop, List.getElem?_drop]
    have hj := h (a + j) (by omega)
    rcases Nat.lt_or_ge (a + j) mx.length with q | q
    · have q2 : a + j < my.length := by omega
      rw [List.getD_eq_getElem?_getD, List.getD_eq_getElem?_getD, List.getElem?_eq_getElem q, List.getElem?_eq_getElem q2] at hj
      rw [List.getElem?_eq_getElem q, List.getElem?_eq_getElem q2]
      simpa using hj
    · rw [List.getElem?_eq_none q, List.getElem?_eq_none (by omega)]
  rw [e]
theorem mput_at (mem : List Int) (a : Nat) (l : List UInt8) (h : a + l.length ≤ mem.length) (j : Nat) : (mput mem a l).getD j 0 = if a ≤ j ∧ j < a + l.length then ((l.getD (j - a) 0).toNat : Int) else mem.getD j 0 := by
  unfold mput
  rw [List.getD_eq_getElem?_getD]
  rcases Nat.lt_or_ge j a with q | q
  · rw [if_neg (by omega), List.append_assoc, List.getElem?_append_left (by simp; omega), List.getElem?_take_of_lt q, List.getD_eq_getElem?_getD]
  · rcases Nat.lt_or_ge j (a + l.length) with q2 | q2
    · rw [if_pos ⟨q, q2⟩, List.append_assoc, List.getElem?_append_right (by simp; omega), List.getElem?_append_left (by simp; omega), List.getElem?_map]
      have e : j - (mem.take a).length = j - a := by simp; omega
      have hl : j - a < l.length := by omega
      rw [e, List.getElem?_eq_getElem hl, List.getD_eq_getElem?_getD, List.getElem?_eq_getElem hl]
      rfl
    · rw [if_neg (by omega), List.getElem?_append_right (by simp; omega), List.getElem?_drop, List.getD_eq_getElem?_getD]
      congr 2
      simp
      omega
theorem sgB {op n : Int} (h : inB n) : inB (Pn.sgP op n) := by
  unfold Pn.sgP
  split
  · rw [← wi8 n]; unfold wrap64 inB; omega
  · split
    · rw [← wi16 n]; unfold wrap64 inB; omega
    · split
      · rw [IntKind.wrap_i32]; unfold inB; omega
      · exact h
structure Cod (xs ys : List IX) : Prop where
  ox : ∀ x ∈ xs, XOk x
  oy : ∀ x ∈ ys, XOk x
  lx : (xs.flatMap bX).length ≤ 2048
  ly : (ys.flatMap bX).length ≤ 2048
  len : xs.length = ys.length
  pair : ∀ k, k < xs.length → ∃ (a b : Pn.Ins) (sa sb : Int), xs[k]? = some (a, sa) ∧ ys[k]? = some (b, sb) ∧ PairX xs ys k a b
structure Sim (xs ys : List IX) (k : Nat) (mx my regs : List Int) : Prop where
  cx : ∀ j, j < (xs.flatMap bX).length → mx.getD j 0 = byN (xs.flatMap bX) j
  cy : ∀ j, j < (ys.flatMap bX).length → my.getD j 0 = byN (ys.flatMap bX) j
  up : ∀ a, 2048 ≤ a → mx.getD a 0 = my.getD a 0
  lx : mx.length = 4096
  ly : my.length = 4096
  rl : regs.length = 32
  rg : ∀ r, inB (regs.getD r 0)
  lt : k < xs.length
  r31 : k = 0 ∨ (k = 1 ∧ regs.getD 31 0 = 4096) ∨ (2 ≤ k ∧ regs.getD 31 0 = 2048)
def Hi (i : Pn.Ins) (regs : List Int) : Prop := (1 ≤ i.op ∧ i.op ≤ 41) ∨ (((42 ≤ i.op ∧ i.op ≤ 48) ∨ (50 ≤ i.op ∧ i.op ≤ 53)) ∧ 2048 ≤ regs.getD i.rs1.toNat 0 + i.imm ∧ regs.getD i.rs1.toNat 0 + i.imm + 8 ≤ 4096) ∨ i.op = 60
theorem Hi.safe {i : Pn.Ins} {regs : List Int} (h : Hi i regs) : Safe i regs := by
  rcases h with h | ⟨h1, h2, h3⟩ | h
  · exact .inl h
  · exact .inr (.inl ⟨h1, by omega, h3⟩)
  · exact .inr (.inr h)
def exV (i : Pn.Ins) (mem regs : List Int) : Int :=
  if i.op ≤ 28 then Pn.comp i.op.toNat (regs.getD i.rs1.toNat 0) (regs.getD i.rs2.toNat 0) else if i.op ≤ 41 then Pn.comp i.op.toNat (regs.getD i.rs1.toNat 0) i.imm
  else if i.op ≤ 48 then Pn.sgP i.op (rdP mem (adr i regs) (Pn.szP i.op)) else IntKind.i64.wrap (i.imm * 4096)
theorem exe_cases (i : Pn.Ins) (mem regs : List Int) : (¬ (49 ≤ i.op ∧ i.op ≤ 53) ∧ exe i mem regs = (mem, rset regs i.rd.toNat (exV i mem regs))) ∨ ((49 ≤ i.op ∧ i.op ≤ 53) ∧ exe i mem regs = (mput mem (adr i regs) (Pn.bytN (Pn.szP i.op) (regs.getD i.rs2.toNat 0)), regs)) := by
  unfold exe exV
  by_cases h1 : i.op ≤ 28
  · left; rw [if_pos h1, if_pos h1]; exact ⟨by omega, rfl⟩
  · rw [if_neg h1, if_neg h1]
    by_cases h2 : i.op ≤ 41
    · left; rw [if_pos h2, if_pos h2]; exact ⟨by omega, rfl⟩
    · rw [if_neg h2, if_neg h2]
      by_cases h3 : i.op ≤ 48
      · left; rw [if_pos h3, if_pos h3]; exact ⟨by omega, rfl⟩
      · rw [if_neg h3, if_neg h3]
        by_cases h4 : i.op ≤ 53
        · right; rw [if_pos h4]; exact ⟨by omega, rfl⟩
        · left; rw [if_neg h4]; exact ⟨by omega, rfl⟩
theorem exV_B (i : Pn.Ins) (mem regs : List Int) (h : ∀ r, inB (regs.getD r 0)) : inB (exV i mem regs) := by
  unfold exV
  split
  · exact Pn.compB _ (h _)
  · split
    · exact Pn.compB _ (h _)
    · split
      · exact sgB (Pn.w64B _)
      · exact Pn.w64B _
theorem exV_eq {i : Pn.Ins} {mx my regs : List Int} (hl : mx.length = my.length) (hi : Hi i regs) (h : ∀ a, 2048 ≤ a → mx.getD a 0 = my.getD a 0) : exV i mx regs = exV i my regs := by
  unfold exV
  split
  · rfl
  · split
    · rfl
    · split
      · rename_i h1 h2 h3
        rcases hi with q | ⟨_, q2, _⟩ | q
        · omega
        · have ha : 2048 ≤ adr i regs := by unfold adr; omega
          unfold rdP
          rw [byt_eq hl (fun j hj => h j (by omega))]
        · omega
      · rfl
theorem exe_sim {xs ys : List IX} {k : Nat} {mx my regs : List Int} {i : Pn.Ins} (hC : Cod xs ys) (hS : Sim xs ys k mx my regs) (hi : Hi i regs) (hk : k + 1 < xs.length)
    (h31 : k + 1 = 1 ∧ (exe i mx regs).2.getD 31 0 = 4096 ∨ 2 ≤ k + 1 ∧ (exe i mx regs).2.getD 31 0 = 2048) :
    (exe i mx regs).2 = (exe i my regs).2 ∧ Sim xs ys (k + 1) (exe i mx regs).1 (exe i my regs).1 (exe i mx regs).2 := by
  have hl : mx.length = my.length := by rw [hS.lx, hS.ly]
  have hv := exV_eq hl hi hS.up
  rcases exe_cases i mx regs with ⟨c1, e1⟩ | ⟨c1, e1⟩
  · rcases exe_cases i my regs with ⟨_, e2⟩ | ⟨c2, _⟩
    · rw [e1, hv] at h31
      rw [e1, e2, hv]
      simp only at h31 ⊢
      refine ⟨trivial, hS.cx, hS.cy, hS.up, hS.lx, hS.ly, by rw [rset_len, hS.rl], fun r => ?_, hk, .inr h31⟩
      rw [rset_get]
      split
      · exact exV_B i my regs hS.rg
      · exact hS.rg r
    · exact absurd c2 c1
  · rcases exe_cases i my regs with ⟨c2, _⟩ | ⟨_, e2⟩
    · exact absurd c1 c2
    · rw [e1] at h31
      rw [e1, e2]
      simp only at h31 ⊢
      have hz := Pn.szP_pos i.op
      have ha : 2048 ≤ adr i regs ∧ adr i regs + 8 ≤ 4096 := by
        rcases hi with q | ⟨_, q2, q3⟩ | q
        · omega
        · unfold adr; omega
        · omega
      have hb : ∀ m : List Int, m.length = 4096 → adr i regs + (Pn.bytN (Pn.szP i.op) (regs.getD i.rs2.toNat 0)).length ≤ m.length := fun m hm => by rw [Pn.bytN_len, hm]; omega
      have hbl := Pn.bytN_len (Pn.szP i.op) (regs.getD i.rs2.toNat 0)
      refine ⟨trivial, fun j hj => ?_, fun j hj => ?_, fun a ha2 => ?_, ?_, ?_, hS.rl, hS.rg, hk, .inr h31⟩
      · have := hC.lx
        rw [mput_at _ _ _ (hb mx hS.lx), if_neg (by omega)]
        exact hS.cx j hj
      · have := hC.ly
        rw [mput_at _ _ _ (hb my hS.ly), if_neg (by omega)]
        exact hS.cy j hj
      · rw [mput_at _ _ _ (hb mx hS.lx), mput_at _ _ _ (hb my hS.ly), hS.up a ha2]
      · rw [mput_len (hb mx hS.lx), hS.lx]
      · rw [mput_len (hb my hS.ly), hS.ly]
theorem sim_step {xs ys : List IX} {k : Nat} {mx my regs : List Int} (hC : Cod xs ys) (hS : Sim xs ys k mx my regs) :
    (∃ px py : Int, StepsTo xs k mx regs 5 px mx regs px ∧ StepsTo ys k my regs 5 py my regs py) ∨
    (∃ (k' : Nat) (mx' my' regs' : List Int), Sim xs ys k' mx' my' regs' ∧ StepsTo xs k mx regs 0 0 mx' regs' (placeX xs k') ∧ StepsTo ys k my regs 0 0 my' regs' (placeX ys k')) := by
  obtain ⟨a, b, sa, sb, hx, hy, hP⟩ := hC.pair k hS.lt
  have nx := place_next hx hC.ox
  have ny := place_next hy hC.oy
  have rx := (hC.ox _ (List.mem_of_getElem? hx)).1
  have ry := (hC.oy _ (List.mem_of_getElem? hy)).1
  simp only at nx ny rx ry
  have plain : b = a → Hi a regs → k + 1 < xs.length → (k + 1 = 1 ∧ (exe a mx regs).2.getD 31 0 = 4096 ∨ 2 ≤ k + 1 ∧ (exe a mx regs).2.getD 31 0 = 2048) →
      ∃ (k' : Nat) (mx' my' regs' : List Int), Sim xs ys k' mx' my' regs' ∧ StepsTo xs k mx regs 0 0 mx' regs' (placeX xs k') ∧ StepsTo ys k my regs 0 0 my' regs' (placeX ys k') := fun hba hhi hk1 h31 => by
    subst hba
    obtain ⟨e1, e2⟩ := exe_sim hC hS hhi hk1 h31
    refine ⟨k + 1, _, _, _, e2, steps_of hx hC.ox hS.cx hC.lx fun b T w1 h1 => ?_, steps_of hy hC.oy hS.cy hC.ly fun b T w1 h1 => ?_⟩
    · rw [nx]
      exact do_plain b _ _ w1 h1 rx hhi.safe hS.rg
    · rw [ny, e1]
      exact do_plain b _ _ w1 h1 ry hhi.safe hS.rg
  rcases hP with ⟨rfl, rfl, hb, hk1⟩ | ⟨rfl, rfl, hb, hk1⟩ | ⟨h2, rfl, rfl⟩ | ⟨h2, hm, hb, hk1⟩ | ⟨h2, hk1, J, op, r1, r2, hJ2, hJ, rfl, rfl, hop⟩
  · refine .inr (plain hb (.inr (.inr rfl)) hk1 (.inl ⟨rfl, ?_⟩))
    have e : (exe ⟨60, 31, 0, 0, 1⟩ mx regs).2 = rset regs 31 4096 := rfl
    rw [e, rset_get, if_pos ⟨rfl, by decide, by rw [hS.rl]; decide⟩]
  · refine .inr (plain hb (.inl ⟨by simp, by simp⟩) hk1 (.inr ⟨by omega, ?_⟩))
    have h31 : regs.getD 31 0 = 4096 := by
      rcases hS.r31 with q | ⟨_, q⟩ | ⟨q, _⟩
      · omega
      · exact q
      · omega
    have e : (exe ⟨38, 31, 31, 0, -2048⟩ mx regs).2 = rset regs 31 (Pn.low (regs.getD 31 0 + -2048)) := rfl
    rw [e, rset_get, if_pos ⟨rfl, by decide, by rw [hS.rl]; decide⟩, h31]
    rfl
  · refine .inl ⟨_, _, steps_of hx hC.ox hS.cx hC.lx fun b T w1 h1 => do_B b _ w1 h1, steps_of hy hC.oy hS.cy hC.ly fun b T w1 h1 => do_B b _ w1 h1⟩
  · have h31 : regs.getD 31 0 = 2048 := by
      rcases hS.r31 with q | ⟨q, _⟩ | ⟨_, q⟩
      · omega
      · omega
      · exact q
    obtain ⟨hr, hrd, hc⟩ := hm
    refine .inr (plain hb ?_ hk1 (.inr ⟨by omega, ?_⟩))
    · rcases hc with q | ⟨q1, q2, q3, q4⟩ | q
      · exact .inl q
      · refine .inr (.inl ⟨q1, ?_, ?_⟩)
        · rw [q2]; show 2048 ≤ regs.getD 31 0 + a.imm; omega
        · rw [q2]; show regs.getD 31 0 + a.imm + 8 ≤ 4096; omega
      · exact .inr (.inr q)
    · rcases exe_cases a mx regs with ⟨_, e1⟩ | ⟨_, e1⟩
      · rw [e1, rset_get, if_neg (fun hc => by
          rcases hrd with q | ⟨q1, q2⟩ <;> omega), h31]
      · rw [e1, h31]
  · have h31 : regs.getD 31 0 = 2048 := by
      rcases hS.r31 with q | ⟨q, _⟩ | ⟨_, q⟩
      · omega
      · omega
      · exact q
    have tgt : ∀ k', 2 ≤ k' → k' < xs.length → Sim xs ys k' mx my regs := fun k' g1 g2 => ⟨hS.cx, hS.cy, hS.up, hS.lx, hS.ly, hS.rl, hS.rg, g2, .inr (.inr ⟨g1, h31⟩)⟩
    have bx := place_lt hC.ox hJ
    have b_y := place_lt hC.oy (show J < ys.length by rw [← hC.len]; exact hJ)
    have llx := hC.lx
    have lly := hC.ly
    have qx : IntKind.i64.wrap ((placeX xs k : Int) + ((placeX xs J : Int) - placeX xs k)) = placeX xs J := by
      rw [show (placeX xs k : Int) + ((placeX xs J : Int) - placeX xs k) = placeX xs J by omega]
      exact IntWalk.i64_in _ (by omega)
    have qy : IntKind.i64.wrap ((placeX ys k : Int) + ((placeX ys J : Int) - placeX ys k)) = placeX ys J := by
      rw [show (placeX ys k : Int) + ((placeX ys J : Int) - placeX ys k) = placeX ys J by omega]
      exact IntWalk.i64_in _ (by omega)
    right
    rcases hop with ⟨o1, o2, ⟨c1, c2⟩, ⟨c3, c4⟩⟩ | ⟨rfl, rfl, rfl⟩
    · obtain ⟨o, rfl⟩ := Int.eq_ofNat_of_zero_le (show 0 ≤ op by omega)
      obtain ⟨s1, rfl⟩ := Int.eq_ofNat_of_zero_le c1
      obtain ⟨s2, rfl⟩ := Int.eq_ofNat_of_zero_le c3
      have hkd : ∀ j, j < 60 → 54 ≤ j → Pn.kdI (Pn.row (j - 1)).kind = 6 := by decide
      have eo : (o : Int) = ((o - 1 : Nat) : Int) + 1 := by omega
      have hv : ∀ im, Pn.right ⟨(o : Int), 0, s1, s2, im⟩ = true → Pn.rightV ⟨(o : Int), 0, s1, s2, im⟩ = .tuple #[Pn.irowV (o - 1), .bool true] := fun im h => by
        rw [eo] at h ⊢
        exact Pn.rightV_yes h
      by_cases hB : Pn.brB o (regs.getD s1 0) (regs.getD s2 0) = true
      · refine ⟨J, mx, my, regs, tgt J hJ2 hJ, steps_of hx hC.ox hS.cx hC.lx fun b T w1 h1 => ?_, steps_of hy hC.oy hS.cy hC.ly fun b T w1 h1 => ?_⟩
        · exact do_Br b o s1 s2 _ _ _ w1 h1 (by omega) (by omega) (by omega) (by omega) (hv _ rx) (hkd o (by omega) (by omega)) qx _ (if_pos hB)
        · exact do_Br b o s1 s2 _ _ _ w1 h1 (by omega) (by omega) (by omega) (by omega) (hv _ ry) (hkd o (by omega) (by omega)) qy _ (if_pos hB)
      · refine ⟨k + 1, mx, my, regs, tgt (k + 1) (by omega) hk1, steps_of hx hC.ox hS.cx hC.lx fun b T w1 h1 => ?_, steps_of hy hC.oy hS.cy hC.ly fun b T w1 h1 => ?_⟩
        · exact do_Br b o s1 s2 _ _ _ w1 h1 (by omega) (by omega) (by omega) (by omega) (hv _ rx) (hkd o (by omega) (by omega)) qx _ ((if_neg hB).trans nx.symm)
        · exact do_Br b o s1 s2 _ _ _ w1 h1 (by omega) (by omega) (by omega) (by omega) (hv _ ry) (hkd o (by omega) (by omega)) qy _ ((if_neg hB).trans ny.symm)
    · refine ⟨J, mx, my, regs, tgt J hJ2 hJ, steps_of hx hC.ox hS.cx hC.lx fun b T w1 h1 => ?_, steps_of hy hC.oy hS.cy hC.ly fun b T w1 h1 => ?_⟩
      · exact do_J b 0 _ _ _ w1 h1 (by decide) (Pn.rightV_yes (k := 61) rx) (by decide) qx
      · exact do_J b 0 _ _ _ w1 h1 (by decide) (Pn.rightV_yes (k := 61) ry) (by decide) qy
end Go.Proofs.YtbmcofdodfcnnaaGreatDoor
namespace Pn
open Go
theorem rnds_four {N : List (List UInt8 × Nat)} : ∀ (m : Nat) {l : List Qt}, (∀ x ∈ l, x.size = 4) → ∀ x ∈ rnds N m l, x.size = 4
  | 0, _, h => h
  | m + 1, l, h => by
    rw [rnds]
    refine rnds_four m fun x hx => ?_
    obtain ⟨k, hk⟩ := List.getElem?_of_mem hx
    unfold rnd grw at hk
    rw [List.getElem?_mapIdx, Option.map_eq_some_iff] at hk
    obtain ⟨y, hy, rfl⟩ := hk
    split
    · rfl
    · exact h y (List.mem_of_getElem? hy)
theorem pL_four {l : List Sta} (h : ∀ x ∈ l, StaOk l.length x) : ∀ x ∈ pL l false, x.size = 4 := by
  unfold pL layF
  refine rnds_four _ fun x hx => ?_
  obtain ⟨k, hk⟩ := List.getElem?_of_mem hx
  unfold fszs at hk
  rw [List.getElem?_mapIdx, Option.map_eq_some_iff] at hk
  obtain ⟨y, hy, rfl⟩ := hk
  rw [if_pos (List.getElem?_eq_some_iff.1 hy).1]
  have hd := (pQ_ok h y (List.mem_of_getElem? hy)).1
  simp [fsz, hd]
end Pn
namespace Go.Proofs.YtbmcofdodfcnnaaGreatDoor
open Go.RowKit
theorem flat_four {xs : List IX} (h : ∀ x ∈ xs, XOk x) (h4 : ∀ x ∈ xs, x.2 = 4) : (xs.flatMap bX).length = 4 * xs.length := by
  induction xs with
  | nil => simp
  | cons x xs ih =>
    have hb := bX_len (h x List.mem_cons_self)
    have h1 := h4 x List.mem_cons_self
    have := ih (fun y hy => h y (List.mem_cons_of_mem _ hy)) (fun y hy => h4 y (List.mem_cons_of_mem _ hy))
    rw [List.flatMap_cons, List.length_append, List.length_cons]
    omega
structure Two (A B : ByteArray) : Prop where
  ab : B.size ≤ A.size
  sz : A.size ≤ 2048
  cod : ∃ xs ys : List IX, A.data.toList = xs.flatMap bX ∧ B.data.toList = ys.flatMap bX ∧ Cod xs ys ∧ 0 < xs.length
theorem two_prog {l : List Pn.Sta} (h : ∀ x ∈ l, Pn.StaOk l.length x) (hl : l.length ≤ 24) {s : ByteArray} (hs : s.data.toList = Pn.progT l) :
    ∃ A B : ByteArray, asmA s false = (A.data.toList, 0, 0) ∧ asmA s true = (B.data.toList, 0, 0) ∧ Two A B := by
  have hl1 : ∀ s, (pX l s).length = (Pn.pQ l).length := fun s => by simp [pX, Pn.pL_len]
  have hq := Pn.pQ_len l hl
  have hlen : (pX l false).length = (pX l true).length := by rw [hl1, hl1]
  have okx := pX_ok h hl false
  have oky := pX_ok h hl true
  have h4 : ∀ x ∈ pX l false, x.2 = 4 := fun x hx => by
    obtain ⟨k, hk⟩ := List.getElem?_of_mem hx
    simp only [pX, List.getElem?_mapIdx, Option.map_eq_some_iff] at hk
    obtain ⟨y, hy, rfl⟩ := hk
    exact Pn.pL_four h y (List.mem_of_getElem? hy)
  have fx := flat_four okx h4
  have fy := flat_len oky
  have hN : (Pn.pQ l).length = (Pn.qUp l (l.length + 1)).length + 1 := (Pn.pQ_last l).1
  have hx0 := hl1 false
  refine ⟨⟨((pX l false).flatMap bX).toArray⟩, ⟨((pX l true).flatMap bX).toArray⟩, ?_, ?_, ?_, ?_, pX l false, pX l true, by simp, by simp, ⟨okx, oky, by omega, by omega, hlen, fun k hk => prog_pair h hl hk⟩, by omega⟩
  · rw [asmA_prog h hl false hs, pX_flat]
  · rw [asmA_prog h hl true hs, pX_flat]
  · have e1 : (⟨((pX l true).flatMap bX).toArray⟩ : ByteArray).size = ((pX l true).flatMap bX).length := by rw [← size_list]
    have e2 : (⟨((pX l false).flatMap bX).toArray⟩ : ByteArray).size = ((pX l false).flatMap bX).length := by rw [← size_list]
    rw [e1, e2]
    omega
  · have e2 : (⟨((pX l false).flatMap bX).toArray⟩ : ByteArray).size = ((pX l false).flatMap bX).length := by rw [← size_list]
    rw [e2]
    omega
theorem zlen' : zmem.length = 4096 := by unfold zmem; exact List.length_replicate
theorem sim_zero {A B : ByteArray} {xs ys : List IX} (hA : A.data.toList = xs.flatMap bX) (hB : B.data.toList = ys.flatMap bX) (hC : Cod xs ys) (h0 : 0 < xs.length) {regs : List Int} (hl : regs.length = 32) (hr : ∀ r, inB (regs.getD r 0)) :
    Sim xs ys 0 (mput zmem 0 A.data.toList) (mput zmem 0 B.data.toList) regs := by
  have l1 := hC.lx
  have l2 := hC.ly
  rw [hA, hB]
  have b1 : 0 + (xs.flatMap bX).length ≤ zmem.length := by rw [zlen']; omega
  have b2 : 0 + (ys.flatMap bX).length ≤ zmem.length := by rw [zlen']; omega
  refine ⟨fun j hj => ?_, fun j hj => ?_, fun a ha => ?_, by rw [mput_len b1, zlen'], by rw [mput_len b2, zlen'], hl, hr, h0, .inl rfl⟩
  · rw [mput_at _ _ _ b1, if_pos ⟨by omega, by omega⟩]; rfl
  · rw [mput_at _ _ _ b2, if_pos ⟨by omega, by omega⟩]; rfl
  · rw [mput_at _ _ _ b1, mput_at _ _ _ b2, if_neg (by omega), if_neg (by omega)]
theorem mm_eq {mx my : List Int} (h : ∀ a, 2048 ≤ a → mx.getD a 0 = my.getD a 0) : ∀ n, Pn.mmT mx n = Pn.mmT my n
  | 0 => rfl
  | n + 1 => by rw [Pn.mmT, Pn.mmT, mm_eq h n, h (2048 + n) (by omega)]
theorem Sim.text {xs ys : List IX} {k : Nat} {mx my regs : List Int} (h : Sim xs ys k mx my regs) : Pn.stTx mx regs = Pn.stTx my regs := by
  unfold Pn.stTx
  rw [mm_eq h.up]
end Go.Proofs.YtbmcofdodfcnnaaGreatDoor
namespace Go
open Go.RowKit
theorem IsM.other {T : TypeId} {b c : Nat} {mem regs : List Int} {pc : Int} {w w' : World} (h : IsM T b mem regs pc w) (hK : Kept c w w') (hne : b ≠ c) : IsM T b mem regs pc w' :=
  ⟨(hK.block b h.lt hne).trans h.row, h.mlen, h.rlen, h.byte⟩
end Go
namespace Go.Proofs.YtbmcofdodfcnnaaGreatDoor
open Go.RowKit
end Go.Proofs.YtbmcofdodfcnnaaGreatDoor
