import Derived.Test.YtbmcofdodfcnnaaGreatDoorPG
import Derived.Lib.ItoaMem
import Derived.Lib.IndexAny
import Derived.Lib.IndexLaws
namespace Pn
open Go
def rg (v : Nat) : List UInt8 := if v < 10 then [120, UInt8.ofNat (48 + v)] else [120, UInt8.ofNat (48 + v / 10), UInt8.ofNat (48 + v % 10)]
theorem regL_rg {v : Nat} (h : v < 100) : regL (v : Int) = rg v := by
  unfold regL rg
  rw [Lib.itoa_nonneg]
  by_cases h1 : v < 10
  · rw [if_pos h1, Lib.decDigits_one h1]
  · rw [if_neg h1, Lib.decDigits_two h1 h]
theorem rg_atoi : ∀ v, v < 32 → Lib.hasPrefix (rg v) [120] = true ∧ Lib.atoiAll (Lib.trimPrefix (rg v) [120]) = .ok (v : Int) := by decide
theorem rg_reg : ∀ v, v < 32 → regV 119 ⟨(rg v).toArray⟩ = (v : Int) := by decide
theorem preg_rg {v : Nat} (h : v < 32) : preg (rg v) = some (v : Int) := by
  obtain ⟨h1, h2⟩ := rg_atoi v h
  unfold preg
  rw [if_pos h1, h2]
  simp only
  rw [if_pos ⟨by omega, regL_rg (by omega)⟩]
theorem preg_inv {T : List UInt8} {v : Int} (hT : ∀ c ∈ T, alnum c = true) (h : preg T = some v) : ∃ u : Nat, u < 32 ∧ v = u ∧ T = rg u := by
  unfold preg at h
  split at h
  · split at h
    · rename_i w hw
      split at h
      · rename_i hq
        have hwv : w = v := Option.some.inj h
        rw [hwv] at hq
        by_cases hv : 0 ≤ v
        · obtain ⟨u, rfl⟩ := Int.eq_ofNat_of_zero_le hv
          exact ⟨u, by omega, rfl, by rw [← hq.2, regL_rg (by omega)]⟩
        · exfalso
          have hm : (45 : UInt8) ∈ T := by
            rw [← hq.2]
            unfold regL Lib.itoa
            rw [if_pos (by omega)]
            simp
          exact absurd (hT 45 hm) (by decide)
      · cases h
    · cases h
  · cases h
theorem regV_inv {T : List UInt8} (h : ¬ regV 119 ⟨T.toArray⟩ < 0) : ∃ u : Nat, u < 32 ∧ T = rg u := by
  unfold regV at h
  split at h
  · rename_i hc
    obtain ⟨_, h2, h3, h0, hd, hn, hz⟩ := hc
    have hs : (ByteArray.mk T.toArray).size = T.length := by simp [ByteArray.size]
    rw [hs] at h2 h3 hd hn hz
    match T, h2, h3 with
    | [a, b], _, _ =>
      have ea : B ⟨[a, b].toArray⟩ 0 = a := rfl
      rw [ea] at h0
      have ha : a = 120 := u8_eq (n := 120) (by omega)
      have hb := digs1_all hd 1 (by omega) (by simp)
      have eb : B ⟨[a, b].toArray⟩ 1 = b := rfl
      rw [eb] at hb
      have hb' := digit_bd hb
      refine ⟨b.toNat - 48, by omega, ?_⟩
      unfold rg
      rw [if_pos (by omega), ha, show 48 + (b.toNat - 48) = b.toNat by omega]
      simp
    | [a, b, c], _, _ =>
      have ea : B ⟨[a, b, c].toArray⟩ 0 = a := rfl
      rw [ea] at h0
      have ha : a = 120 := u8_eq (n := 120) (by omega)
      have hb := digs1_all hd 1 (by omega) (by simp)
      have hc := digs1_all hd 2 (by omega) (by simp)
      have eb : B ⟨[a, b, c].toArray⟩ 1 = b := rfl
      have ec : B ⟨[a, b, c].toArray⟩ 2 = c := rfl
      rw [eb] at hb
      rw [ec] at hc
      have hb' := digit_bd hb
      have hc' := digit_bd hc
      have hnum : numAt ⟨[a, b, c].toArray⟩ 1 3 = 10 * (b.toNat - 48) + c.toNat - 48 := by
        show numOf 0 [b, c] = _
        simp only [numOf]; omega
      have hn' : numAt ⟨[a, b, c].toArray⟩ 1 3 ≤ 31 := hn
      rw [hnum] at hn'
      have hz' : b.toNat ≠ 48 := fun e => hz ⟨rfl, by rw [eb]; exact e⟩
      refine ⟨10 * (b.toNat - 48) + (c.toNat - 48), by omega, ?_⟩
      unfold rg
      rw [if_neg (by omega), ha, show 48 + (10 * (b.toNat - 48) + (c.toNat - 48)) / 10 = b.toNat by omega, show 48 + (10 * (b.toNat - 48) + (c.toNat - 48)) % 10 = c.toNat by omega]
      simp
  · exact absurd (by decide) h
theorem preg_regV {T : List UInt8} (hT : ∀ c ∈ T, alnum c = true) : preg T = if regV 119 ⟨T.toArray⟩ < 0 then none else some (regV 119 ⟨T.toArray⟩) := by
  by_cases h : regV 119 ⟨T.toArray⟩ < 0
  · rw [if_pos h]
    cases hp : preg T with
    | none => rfl
    | some v =>
      obtain ⟨u, hu, _, rfl⟩ := preg_inv hT hp
      rw [rg_reg u hu] at h; omega
  · rw [if_neg h]
    obtain ⟨u, hu, rfl⟩ := regV_inv h
    rw [rg_reg u hu]; exact preg_rg hu
/-- the same, of a good token -/
theorem good_preg {t : Tok} (h : Good t) : preg t.text = if regV t.kind t.S < 0 then none else some (regV t.kind t.S) := by
  rcases h with ⟨hk, ha, _⟩ | hx
  · rw [hk]; exact preg_regV ha
  · have hk : t.kind ≠ 119 ∧ ∃ c r, t.text = c :: r ∧ smallB c.toNat = false := by
      rcases hx with ⟨hk, _, c, r, h1, h2⟩ | ⟨hk, c, h1, _, h2⟩
      · exact ⟨by omega, c, r, h1, h2⟩
      · exact ⟨by omega, c, [], h1, h2⟩
    obtain ⟨hk, c, r, ht, hs⟩ := hk
    have h1 : regV t.kind t.S = -1 := regV_no (fun hx => hk hx.1)
    rw [h1, if_pos (by decide)]
    have hp : Lib.hasPrefix t.text [120] = false := by
      rw [ht]
      have : (120 == c) = false := beq_false_of_ne (fun e => by rw [← e] at hs; exact absurd hs (by decide))
      simp [Lib.hasPrefix, List.isPrefixOf, this]
    simp [preg, hp]
theorem good_pnum {t : Tok} (h : Good t) : pnum (ck t.kind) t.text = if t.kind = 105 then some t.num else none := by
  rcases h with ⟨hk, _⟩ | ⟨hk, ha, _⟩ | ⟨hk, _⟩
  · simp [hk, ck, pnum]
  · simp [hk, ck, pnum, ha]
  · have : ck t.kind = 3 := by unfold ck; rw [if_neg (by omega), if_neg (by omega)]
    rw [this, if_neg (by omega)]; rfl
theorem good_nm {t : Tok} (h : Good t) : isNm (ck t.kind) t.text = decide (t.kind = 119 ∧ t.S.size ≤ 8) := by
  have hs : t.S.size = t.text.length := by simp [Tok.S, ByteArray.size]
  rw [hs]
  rcases h with ⟨hk, ha, _⟩ | hx
  · have h46 : (0 ≤ Lib.indexByte t.text 46) = False := by
      apply eq_false
      intro hx
      have := Lib.contains_iff_indexByte t.text 46
      rw [decide_eq_true hx] at this
      have hm : (46 : UInt8) ∈ t.text := by simpa using this
      exact absurd (ha 46 hm) (by decide)
    simp [isNm, hk, ck, h46]
  · have hk : t.kind ≠ 119 := by rcases hx with ⟨hk, _⟩ | ⟨hk, _⟩ <;> omega
    have : ck t.kind ≠ 1 := by unfold ck; rw [if_neg hk]; split <;> decide
    simp [isNm, hk, this]
theorem good_mark {t : Tok} (h : Good t) (f : UInt8) (hf : f = 44 ∨ f = 40 ∨ f = 41) : (t.text = [f]) ↔ ((f.toNat : Int) = t.kind) := by
  have hfn : smallB f.toNat = false ∧ ((f.toNat : Int) ≠ 119 ∧ (f.toNat : Int) ≠ 105) := by rcases hf with rfl | rfl | rfl <;> decide
  rcases h with ⟨hk, _, c, r, ht, hs⟩ | ⟨hk, ha, c, r, ht, hs⟩ | ⟨hk, c, ht, hc, hs⟩
  · constructor
    · intro e; rw [ht] at e; cases e; rw [hs] at hfn; exact absurd hfn.1 (by decide)
    · intro e; omega
  · constructor
    · intro e
      rw [e] at ha
      have q1 : (match Lib.atoiAll [44] with | .ok _ => false | _ => true) = true := by decide
      have q2 : (match Lib.atoiAll [40] with | .ok _ => false | _ => true) = true := by decide
      have q3 : (match Lib.atoiAll [41] with | .ok _ => false | _ => true) = true := by decide
      rcases hf with rfl | rfl | rfl
      · rw [ha] at q1; cases q1
      · rw [ha] at q2; cases q2
      · rw [ha] at q3; cases q3
    · intro e; omega
  · rw [ht]
    constructor
    · intro e; cases e; exact hc
    · intro e
      have : c = f := by
        have : c.toNat = f.toNat := by omega
        exact UInt8.toNat_inj.1 this
      rw [this]
end Pn
namespace Pn
open Go
/-- one step of each side, at a good token -/
theorem st_r {t : Tok} (h : Good t) (l : List Tok) (F : List UInt8) (rs : List Int) (n : Int) (nm : ByteArray) : opnd (t :: l) (114 :: F) rs n nm = (preg t.text).bind fun v => opnd l F (rs ++ [v]) n nm := by
  rw [good_preg h]
  by_cases hr : regV t.kind t.S < 0
  · rw [opnd_r_no rfl _ _ _ _ _ _ hr, if_pos hr]; rfl
  · rw [opnd_r rfl _ _ _ _ _ _ hr, if_neg hr]; rfl
theorem st_i {t : Tok} (h : Good t) (l : List Tok) (F : List UInt8) (rs : List Int) (n : Int) (nm : ByteArray) : opnd (t :: l) (105 :: F) rs n nm = (pnum (ck t.kind) t.text).bind fun v => opnd l F rs v nm := by
  rw [good_pnum h]
  by_cases hr : t.kind = 105
  · rw [opnd_i (by decide) (.inl rfl) _ _ _ _ _ _ hr, if_pos hr]; rfl
  · rw [if_neg hr]
    exact opnd_no (by decide) _ _ _ _ _ _ (fun x => hr x.2) (fun x => absurd x.1 (by decide)) (fun x => x.2 rfl)
theorem st_m {t : Tok} (h : Good t) (f : UInt8) (hf : f = 44 ∨ f = 40 ∨ f = 41) (l : List Tok) (F : List UInt8) (rs : List Int) (n : Int) (nm : ByteArray) : opnd (t :: l) (f :: F) rs n nm = if t.text = [f] then opnd l F rs n nm else none := by
  have hm := good_mark h f hf
  have h1 : f ≠ 114 := by rcases hf with rfl | rfl | rfl <;> decide
  have h2 : ¬ ((f = 105 ∨ f = 116) ∧ t.kind = 105) := by rintro ⟨h | h, _⟩ <;> (rw [h] at hf; exact absurd hf (by decide))
  have h3 : ¬ (f = 116 ∧ t.kind = 119 ∧ t.S.size ≤ 8) := by rintro ⟨h, _⟩; rw [h] at hf; exact absurd hf (by decide)
  have h4 : f ≠ 105 := by rcases hf with rfl | rfl | rfl <;> decide
  by_cases hq : t.text = [f]
  · rw [if_pos hq, opnd_s h1 _ _ _ _ _ _ h2 h3 (hm.1 hq) h4]
  · rw [if_neg hq, opnd_no h1 _ _ _ _ _ _ h2 h3 (fun x => hq (hm.2 x.1))]
theorem st_t {t : Tok} (h : Good t) (l : List Tok) (F : List UInt8) (rs : List Int) (n : Int) (nm : ByteArray) :
    opnd (t :: l) (116 :: F) rs n nm = if isNm (ck t.kind) t.text then opnd l F rs n t.S else (pnum (ck t.kind) t.text).bind fun v => opnd l F rs v nm := by
  rw [good_pnum h, good_nm h]
  by_cases h1 : t.kind = 105
  · rw [opnd_i (by decide) (.inr rfl) _ _ _ _ _ _ h1, if_pos h1, decide_eq_false (by rintro ⟨a, _⟩; omega)]; rfl
  · by_cases h2 : t.kind = 119 ∧ t.S.size ≤ 8
    · rw [opnd_t rfl _ _ _ _ _ _ h2.1 h2.2, decide_eq_true h2]; rfl
    · rw [decide_eq_false h2, if_neg h1]
      refine opnd_no (by decide) _ _ _ _ _ _ (fun x => h1 x.2) (fun x => h2 x.2) (fun x => ?_)
      have : t.kind = 116 := by have := x.1; simp at this; omega
      rcases h with ⟨hk, _⟩ | ⟨hk, _⟩ | ⟨hk, _⟩ <;> omega
theorem sp_d (k : Int) (t : List UInt8) (i : Ins) (tg : List UInt8) : pstep 100 k t i tg = (preg t).map fun n => ({ i with rd := n }, tg) := rfl
theorem sp_s (k : Int) (t : List UInt8) (i : Ins) (tg : List UInt8) : pstep 115 k t i tg = (preg t).map fun n => ({ i with rs1 := n }, tg) := rfl
theorem sp_t (k : Int) (t : List UInt8) (i : Ins) (tg : List UInt8) : pstep 116 k t i tg = (preg t).map fun n => ({ i with rs2 := n }, tg) := rfl
theorem sp_i (k : Int) (t : List UInt8) (i : Ins) (tg : List UInt8) : pstep 105 k t i tg = (pnum k t).map fun n => ({ i with imm := n }, tg) := rfl
theorem sp_p (k : Int) (t : List UInt8) (i : Ins) (tg : List UInt8) : pstep 112 k t i tg = if isNm k t then some (i, t) else (pnum k t).map fun n => ({ i with imm := n }, tg) := rfl
theorem sp_44 (k : Int) (t : List UInt8) (i : Ins) (tg : List UInt8) : pstep 44 k t i tg = if t = [44] then some (i, tg) else none := rfl
theorem sp_40 (k : Int) (t : List UInt8) (i : Ins) (tg : List UInt8) : pstep 40 k t i tg = if t = [40] then some (i, tg) else none := rfl
theorem sp_41 (k : Int) (t : List UInt8) (i : Ins) (tg : List UInt8) : pstep 41 k t i tg = if t = [41] then some (i, tg) else none := rfl
def both (k : Nat) (x : List Int × Int × ByteArray) : Ins × List UInt8 := (insOf k x.1 x.2.1, x.2.2.data.toList)
theorem ps_cons (r : UInt8) (F : List UInt8) (t : Tok) (l : List Tok) (i : Ins) (tg : List UInt8) : pshape (r :: F) ((t :: l).map conv) i tg = (pstep r (ck t.kind) t.text i tg).bind fun s => pshape F (l.map conv) s.1 s.2 := rfl
theorem opnd_nil_ne (f : UInt8) (F : List UInt8) (rs : List Int) (n : Int) (nm : ByteArray) : opnd [] (f :: F) rs n nm = none := by simp [opnd]
theorem opnd_ne_nil (t : Tok) (l : List Tok) (rs : List Int) (n : Int) (nm : ByteArray) : opnd (t :: l) [] rs n nm = none := by simp [opnd]
theorem ps_nil_ne (r : UInt8) (F : List UInt8) (i : Ins) (tg : List UInt8) : pshape (r :: F) ([].map conv) i tg = none := rfl
theorem ps_ne_nil (t : Tok) (l : List Tok) (i : Ins) (tg : List UInt8) : pshape [] ((t :: l).map conv) i tg = none := rfl
theorem tS (t : Tok) : t.S.data.toList = t.text := by simp [Tok.S]
theorem pshape_len' : ∀ (F : List UInt8) (l : List Pc) (i : Ins) (tg : List UInt8), l.length ≠ F.length → pshape F l i tg = none
  | [], [], _, _, h => by simp at h
  | [], p :: l, _, _, _ => by simp [pshape]
  | r :: F, [], _, _, _ => by simp [pshape]
  | r :: F, (k, t) :: l, i, tg, h => by
    simp only [pshape]
    cases pstep r k t i tg with
    | none => rfl
    | some s => exact pshape_len' F l s.1 s.2 (by simpa using h)
theorem ps_end (i : Ins) (tg : List UInt8) : pshape [] (([] : List Tok).map conv) i tg = some (i, tg) := rfl
theorem len5 {A : List Tok} (h : A.length = 5) : ∃ a b c d e, A = [a, b, c, d, e] := by
  match A, h with
  | [a, b, c, d, e], _ => exact ⟨a, b, c, d, e, rfl⟩
theorem len6 {A : List Tok} (h : A.length = 6) : ∃ a b c d e f, A = [a, b, c, d, e, f] := by
  match A, h with
  | [a, b, c, d, e, f], _ => exact ⟨a, b, c, d, e, f, rfl⟩
theorem len3 {A : List Tok} (h : A.length = 3) : ∃ a b c, A = [a, b, c] := by
  match A, h with
  | [a, b, c], _ => exact ⟨a, b, c, rfl⟩
theorem ops_R {k : Nat} {A : List Tok} (hA : ∀ t ∈ A, Good t) (h : (row k).kind = 82) : pshape (shp (row k).kind) (A.map conv) ⟨k + 1, 0, 0, 0, 0⟩ [] = (opnd A (formOf (row k).kind) [] 0 ⟨#[]⟩).map (both k) := by
  rw [h, show shp 82 = [100, 44, 115, 44, 116] from rfl, show formOf 82 = [114, 44, 114, 44, 114] from rfl]
  by_cases hl : ¬ A.length = 5
  · rw [opnd_len _ _ _ _ _ (by simpa using hl), pshape_len' _ _ _ _ (by simpa using hl)]; rfl
  replace hl := Classical.not_not.1 hl
  obtain ⟨a, b, c, d, e, rfl⟩ := len5 hl
  rw [ps_cons, sp_d, st_r (hA a (by simp))]
  cases preg a.text with
  | none => rfl
  | some v0 =>
    simp only [Option.map_some, Option.bind_some]
    rw [ps_cons, sp_44, st_m (hA b (by simp)) 44 (by simp)]
    by_cases hq1 : ¬ b.text = [44]
    · rw [if_neg hq1, if_neg hq1]; rfl
    replace hq1 := Classical.not_not.1 hq1
    rw [if_pos hq1, if_pos hq1, Option.bind_some]
    rw [ps_cons, sp_s, st_r (hA c (by simp))]
    cases preg c.text with
    | none => rfl
    | some v2 =>
      simp only [Option.map_some, Option.bind_some]
      rw [ps_cons, sp_44, st_m (hA d (by simp)) 44 (by simp)]
      by_cases hq3 : ¬ d.text = [44]
      · rw [if_neg hq3, if_neg hq3]; rfl
      replace hq3 := Classical.not_not.1 hq3
      rw [if_pos hq3, if_pos hq3, Option.bind_some]
      rw [ps_cons, sp_t, st_r (hA e (by simp))]
      cases preg e.text with
      | none => rfl
      | some v4 =>
        simp only [Option.map_some, Option.bind_some]
        rw [ps_end, opnd_nil]
        show _ = some (both k _)
        unfold both
        rw [insOf_R k _ _ h]; rfl
theorem ops_I {k : Nat} {A : List Tok} (hA : ∀ t ∈ A, Good t) (h : (row k).kind = 73) : pshape (shp (row k).kind) (A.map conv) ⟨k + 1, 0, 0, 0, 0⟩ [] = (opnd A (formOf (row k).kind) [] 0 ⟨#[]⟩).map (both k) := by
  rw [h, show shp 73 = [100, 44, 115, 44, 105] from rfl, show formOf 73 = [114, 44, 114, 44, 105] from rfl]
  by_cases hl : ¬ A.length = 5
  · rw [opnd_len _ _ _ _ _ (by simpa using hl), pshape_len' _ _ _ _ (by simpa using hl)]; rfl
  replace hl := Classical.not_not.1 hl
  obtain ⟨a, b, c, d, e, rfl⟩ := len5 hl
  rw [ps_cons, sp_d, st_r (hA a (by simp))]
  cases preg a.text with
  | none => rfl
  | some v0 =>
    simp only [Option.map_some, Option.bind_some]
    rw [ps_cons, sp_44, st_m (hA b (by simp)) 44 (by simp)]
    by_cases hq1 : ¬ b.text = [44]
    · rw [if_neg hq1, if_neg hq1]; rfl
    replace hq1 := Classical.not_not.1 hq1
    rw [if_pos hq1, if_pos hq1, Option.bind_some]
    rw [ps_cons, sp_s, st_r (hA c (by simp))]
    cases preg c.text with
    | none => rfl
    | some v2 =>
      simp only [Option.map_some, Option.bind_some]
      rw [ps_cons, sp_44, st_m (hA d (by simp)) 44 (by simp)]
      by_cases hq3 : ¬ d.text = [44]
      · rw [if_neg hq3, if_neg hq3]; rfl
      replace hq3 := Classical.not_not.1 hq3
      rw [if_pos hq3, if_pos hq3, Option.bind_some]
      rw [ps_cons, sp_i, st_i (hA e (by simp))]
      cases pnum (ck e.kind) e.text with
      | none => rfl
      | some v4 =>
        simp only [Option.map_some, Option.bind_some]
        rw [ps_end, opnd_nil]
        show _ = some (both k _)
        unfold both
        rw [insOf_I k _ _ (by omega)]; rfl
theorem ops_H {k : Nat} {A : List Tok} (hA : ∀ t ∈ A, Good t) (h : (row k).kind = 72) : pshape (shp (row k).kind) (A.map conv) ⟨k + 1, 0, 0, 0, 0⟩ [] = (opnd A (formOf (row k).kind) [] 0 ⟨#[]⟩).map (both k) := by
  rw [h, show shp 72 = [100, 44, 115, 44, 105] from rfl, show formOf 72 = [114, 44, 114, 44, 105] from rfl]
  by_cases hl : ¬ A.length = 5
  · rw [opnd_len _ _ _ _ _ (by simpa using hl), pshape_len' _ _ _ _ (by simpa using hl)]; rfl
  replace hl := Classical.not_not.1 hl
  obtain ⟨a, b, c, d, e, rfl⟩ := len5 hl
  rw [ps_cons, sp_d, st_r (hA a (by simp))]
  cases preg a.text with
  | none => rfl
  | some v0 =>
    simp only [Option.map_some, Option.bind_some]
    rw [ps_cons, sp_44, st_m (hA b (by simp)) 44 (by simp)]
    by_cases hq1 : ¬ b.text = [44]
    · rw [if_neg hq1, if_neg hq1]; rfl
    replace hq1 := Classical.not_not.1 hq1
    rw [if_pos hq1, if_pos hq1, Option.bind_some]
    rw [ps_cons, sp_s, st_r (hA c (by simp))]
    cases preg c.text with
    | none => rfl
    | some v2 =>
      simp only [Option.map_some, Option.bind_some]
      rw [ps_cons, sp_44, st_m (hA d (by simp)) 44 (by simp)]
      by_cases hq3 : ¬ d.text = [44]
      · rw [if_neg hq3, if_neg hq3]; rfl
      replace hq3 := Classical.not_not.1 hq3
      rw [if_pos hq3, if_pos hq3, Option.bind_some]
      rw [ps_cons, sp_i, st_i (hA e (by simp))]
      cases pnum (ck e.kind) e.text with
      | none => rfl
      | some v4 =>
        simp only [Option.map_some, Option.bind_some]
        rw [ps_end, opnd_nil]
        show _ = some (both k _)
        unfold both
        rw [insOf_I k _ _ (by omega)]; rfl
theorem ops_W {k : Nat} {A : List Tok} (hA : ∀ t ∈ A, Good t) (h : (row k).kind = 87) : pshape (shp (row k).kind) (A.map conv) ⟨k + 1, 0, 0, 0, 0⟩ [] = (opnd A (formOf (row k).kind) [] 0 ⟨#[]⟩).map (both k) := by
  rw [h, show shp 87 = [100, 44, 115, 44, 105] from rfl, show formOf 87 = [114, 44, 114, 44, 105] from rfl]
  by_cases hl : ¬ A.length = 5
  · rw [opnd_len _ _ _ _ _ (by simpa using hl), pshape_len' _ _ _ _ (by simpa using hl)]; rfl
  replace hl := Classical.not_not.1 hl
  obtain ⟨a, b, c, d, e, rfl⟩ := len5 hl
  rw [ps_cons, sp_d, st_r (hA a (by simp))]
  cases preg a.text with
  | none => rfl
  | some v0 =>
    simp only [Option.map_some, Option.bind_some]
    rw [ps_cons, sp_44, st_m (hA b (by simp)) 44 (by simp)]
    by_cases hq1 : ¬ b.text = [44]
    · rw [if_neg hq1, if_neg hq1]; rfl
    replace hq1 := Classical.not_not.1 hq1
    rw [if_pos hq1, if_pos hq1, Option.bind_some]
    rw [ps_cons, sp_s, st_r (hA c (by simp))]
    cases preg c.text with
    | none => rfl
    | some v2 =>
      simp only [Option.map_some, Option.bind_some]
      rw [ps_cons, sp_44, st_m (hA d (by simp)) 44 (by simp)]
      by_cases hq3 : ¬ d.text = [44]
      · rw [if_neg hq3, if_neg hq3]; rfl
      replace hq3 := Classical.not_not.1 hq3
      rw [if_pos hq3, if_pos hq3, Option.bind_some]
      rw [ps_cons, sp_i, st_i (hA e (by simp))]
      cases pnum (ck e.kind) e.text with
      | none => rfl
      | some v4 =>
        simp only [Option.map_some, Option.bind_some]
        rw [ps_end, opnd_nil]
        show _ = some (both k _)
        unfold both
        rw [insOf_I k _ _ (by omega)]; rfl
theorem ops_L {k : Nat} {A : List Tok} (hA : ∀ t ∈ A, Good t) (h : (row k).kind = 76) : pshape (shp (row k).kind) (A.map conv) ⟨k + 1, 0, 0, 0, 0⟩ [] = (opnd A (formOf (row k).kind) [] 0 ⟨#[]⟩).map (both k) := by
  rw [h, show shp 76 = [100, 44, 105, 40, 115, 41] from rfl, show formOf 76 = [114, 44, 105, 40, 114, 41] from rfl]
  by_cases hl : ¬ A.length = 6
  · rw [opnd_len _ _ _ _ _ (by simpa using hl), pshape_len' _ _ _ _ (by simpa using hl)]; rfl
  replace hl := Classical.not_not.1 hl
  obtain ⟨a, b, c, d, e, f, rfl⟩ := len6 hl
  rw [ps_cons, sp_d, st_r (hA a (by simp))]
  cases preg a.text with
  | none => rfl
  | some v0 =>
    simp only [Option.map_some, Option.bind_some]
    rw [ps_cons, sp_44, st_m (hA b (by simp)) 44 (by simp)]
    by_cases hq1 : ¬ b.text = [44]
    · rw [if_neg hq1, if_neg hq1]; rfl
    replace hq1 := Classical.not_not.1 hq1
    rw [if_pos hq1, if_pos hq1, Option.bind_some]
    rw [ps_cons, sp_i, st_i (hA c (by simp))]
    cases pnum (ck c.kind) c.text with
    | none => rfl
    | some v2 =>
      simp only [Option.map_some, Option.bind_some]
      rw [ps_cons, sp_40, st_m (hA d (by simp)) 40 (by simp)]
      by_cases hq3 : ¬ d.text = [40]
      · rw [if_neg hq3, if_neg hq3]; rfl
      replace hq3 := Classical.not_not.1 hq3
      rw [if_pos hq3, if_pos hq3, Option.bind_some]
      rw [ps_cons, sp_s, st_r (hA e (by simp))]
      cases preg e.text with
      | none => rfl
      | some v4 =>
        simp only [Option.map_some, Option.bind_some]
        rw [ps_cons, sp_41, st_m (hA f (by simp)) 41 (by simp)]
        by_cases hq5 : ¬ f.text = [41]
        · rw [if_neg hq5, if_neg hq5]; rfl
        replace hq5 := Classical.not_not.1 hq5
        rw [if_pos hq5, if_pos hq5, Option.bind_some]
        rw [ps_end, opnd_nil]
        show _ = some (both k _)
        unfold both
        rw [insOf_I k _ _ (by omega)]; rfl
theorem ops_S {k : Nat} {A : List Tok} (hA : ∀ t ∈ A, Good t) (h : (row k).kind = 83) : pshape (shp (row k).kind) (A.map conv) ⟨k + 1, 0, 0, 0, 0⟩ [] = (opnd A (formOf (row k).kind) [] 0 ⟨#[]⟩).map (both k) := by
  rw [h, show shp 83 = [116, 44, 105, 40, 115, 41] from rfl, show formOf 83 = [114, 44, 105, 40, 114, 41] from rfl]
  by_cases hl : ¬ A.length = 6
  · rw [opnd_len _ _ _ _ _ (by simpa using hl), pshape_len' _ _ _ _ (by simpa using hl)]; rfl
  replace hl := Classical.not_not.1 hl
  obtain ⟨a, b, c, d, e, f, rfl⟩ := len6 hl
  rw [ps_cons, sp_t, st_r (hA a (by simp))]
  cases preg a.text with
  | none => rfl
  | some v0 =>
    simp only [Option.map_some, Option.bind_some]
    rw [ps_cons, sp_44, st_m (hA b (by simp)) 44 (by simp)]
    by_cases hq1 : ¬ b.text = [44]
    · rw [if_neg hq1, if_neg hq1]; rfl
    replace hq1 := Classical.not_not.1 hq1
    rw [if_pos hq1, if_pos hq1, Option.bind_some]
    rw [ps_cons, sp_i, st_i (hA c (by simp))]
    cases pnum (ck c.kind) c.text with
    | none => rfl
    | some v2 =>
      simp only [Option.map_some, Option.bind_some]
      rw [ps_cons, sp_40, st_m (hA d (by simp)) 40 (by simp)]
      by_cases hq3 : ¬ d.text = [40]
      · rw [if_neg hq3, if_neg hq3]; rfl
      replace hq3 := Classical.not_not.1 hq3
      rw [if_pos hq3, if_pos hq3, Option.bind_some]
      rw [ps_cons, sp_s, st_r (hA e (by simp))]
      cases preg e.text with
      | none => rfl
      | some v4 =>
        simp only [Option.map_some, Option.bind_some]
        rw [ps_cons, sp_41, st_m (hA f (by simp)) 41 (by simp)]
        by_cases hq5 : ¬ f.text = [41]
        · rw [if_neg hq5, if_neg hq5]; rfl
        replace hq5 := Classical.not_not.1 hq5
        rw [if_pos hq5, if_pos hq5, Option.bind_some]
        rw [ps_end, opnd_nil]
        show _ = some (both k _)
        unfold both
        rw [insOf_S k _ _ h]; rfl
theorem ops_B {k : Nat} {A : List Tok} (hA : ∀ t ∈ A, Good t) (h : (row k).kind = 66) : pshape (shp (row k).kind) (A.map conv) ⟨k + 1, 0, 0, 0, 0⟩ [] = (opnd A (formOf (row k).kind) [] 0 ⟨#[]⟩).map (both k) := by
  rw [h, show shp 66 = [115, 44, 116, 44, 112] from rfl, show formOf 66 = [114, 44, 114, 44, 116] from rfl]
  by_cases hl : ¬ A.length = 5
  · rw [opnd_len _ _ _ _ _ (by simpa using hl), pshape_len' _ _ _ _ (by simpa using hl)]; rfl
  replace hl := Classical.not_not.1 hl
  obtain ⟨a, b, c, d, e, rfl⟩ := len5 hl
  rw [ps_cons, sp_s, st_r (hA a (by simp))]
  cases preg a.text with
  | none => rfl
  | some v0 =>
    simp only [Option.map_some, Option.bind_some]
    rw [ps_cons, sp_44, st_m (hA b (by simp)) 44 (by simp)]
    by_cases hq1 : ¬ b.text = [44]
    · rw [if_neg hq1, if_neg hq1]; rfl
    replace hq1 := Classical.not_not.1 hq1
    rw [if_pos hq1, if_pos hq1, Option.bind_some]
    rw [ps_cons, sp_t, st_r (hA c (by simp))]
    cases preg c.text with
    | none => rfl
    | some v2 =>
      simp only [Option.map_some, Option.bind_some]
      rw [ps_cons, sp_44, st_m (hA d (by simp)) 44 (by simp)]
      by_cases hq3 : ¬ d.text = [44]
      · rw [if_neg hq3, if_neg hq3]; rfl
      replace hq3 := Classical.not_not.1 hq3
      rw [if_pos hq3, if_pos hq3, Option.bind_some]
      rw [ps_cons, sp_p, st_t (hA e (by simp))]
      by_cases hn : isNm (ck e.kind) e.text = true
      · rw [if_pos hn, if_pos hn, Option.bind_some]
        rw [ps_end, opnd_nil]
        show _ = some (both k _)
        unfold both
        rw [insOf_B k _ _ h, tS]; rfl
      · rw [if_neg hn, if_neg hn]
        cases pnum (ck e.kind) e.text with
        | none => rfl
        | some v4 =>
          simp only [Option.map_some, Option.bind_some]
          rw [ps_end, opnd_nil]
          show _ = some (both k _)
          unfold both
          rw [insOf_B k _ _ h]; rfl
theorem ops_U {k : Nat} {A : List Tok} (hA : ∀ t ∈ A, Good t) (h : (row k).kind = 85) : pshape (shp (row k).kind) (A.map conv) ⟨k + 1, 0, 0, 0, 0⟩ [] = (opnd A (formOf (row k).kind) [] 0 ⟨#[]⟩).map (both k) := by
  rw [h, show shp 85 = [100, 44, 105] from rfl, show formOf 85 = [114, 44, 105] from rfl]
  by_cases hl : ¬ A.length = 3
  · rw [opnd_len _ _ _ _ _ (by simpa using hl), pshape_len' _ _ _ _ (by simpa using hl)]; rfl
  replace hl := Classical.not_not.1 hl
  obtain ⟨a, b, c, rfl⟩ := len3 hl
  rw [ps_cons, sp_d, st_r (hA a (by simp))]
  cases preg a.text with
  | none => rfl
  | some v0 =>
    simp only [Option.map_some, Option.bind_some]
    rw [ps_cons, sp_44, st_m (hA b (by simp)) 44 (by simp)]
    by_cases hq1 : ¬ b.text = [44]
    · rw [if_neg hq1, if_neg hq1]; rfl
    replace hq1 := Classical.not_not.1 hq1
    rw [if_pos hq1, if_pos hq1, Option.bind_some]
    rw [ps_cons, sp_i, st_i (hA c (by simp))]
    cases pnum (ck c.kind) c.text with
    | none => rfl
    | some v2 =>
      simp only [Option.map_some, Option.bind_some]
      rw [ps_end, opnd_nil]
      show _ = some (both k _)
      unfold both
      rw [insOf_U k _ _ (by omega)]; rfl
theorem ops_J {k : Nat} {A : List Tok} (hA : ∀ t ∈ A, Good t) (h : (row k).kind = 74) : pshape (shp (row k).kind) (A.map conv) ⟨k + 1, 0, 0, 0, 0⟩ [] = (opnd A (formOf (row k).kind) [] 0 ⟨#[]⟩).map (both k) := by
  rw [h, show shp 74 = [100, 44, 112] from rfl, show formOf 74 = [114, 44, 116] from rfl]
  by_cases hl : ¬ A.length = 3
  · rw [opnd_len _ _ _ _ _ (by simpa using hl), pshape_len' _ _ _ _ (by simpa using hl)]; rfl
  replace hl := Classical.not_not.1 hl
  obtain ⟨a, b, c, rfl⟩ := len3 hl
  rw [ps_cons, sp_d, st_r (hA a (by simp))]
  cases preg a.text with
  | none => rfl
  | some v0 =>
    simp only [Option.map_some, Option.bind_some]
    rw [ps_cons, sp_44, st_m (hA b (by simp)) 44 (by simp)]
    by_cases hq1 : ¬ b.text = [44]
    · rw [if_neg hq1, if_neg hq1]; rfl
    replace hq1 := Classical.not_not.1 hq1
    rw [if_pos hq1, if_pos hq1, Option.bind_some]
    rw [ps_cons, sp_p, st_t (hA c (by simp))]
    by_cases hn : isNm (ck c.kind) c.text = true
    · rw [if_pos hn, if_pos hn, Option.bind_some]
      rw [ps_end, opnd_nil]
      show _ = some (both k _)
      unfold both
      rw [insOf_U k _ _ (by omega), tS]; rfl
    · rw [if_neg hn, if_neg hn]
      cases pnum (ck c.kind) c.text with
      | none => rfl
      | some v2 =>
        simp only [Option.map_some, Option.bind_some]
        rw [ps_end, opnd_nil]
        show _ = some (both k _)
        unfold both
        rw [insOf_U k _ _ (by omega)]; rfl
theorem ops_N {k : Nat} {A : List Tok} (h : (row k).kind = 78) : pshape (shp (row k).kind) (A.map conv) ⟨k + 1, 0, 0, 0, 0⟩ [] = (opnd A (formOf (row k).kind) [] 0 ⟨#[]⟩).map (both k) := by
  rw [h, show shp 78 = [] from rfl, show formOf 78 = [] from rfl]
  cases A with
  | nil =>
    rw [ps_end, opnd_nil]
    show _ = some (both k _)
    unfold both
    rw [insOf_N k _ _ h]
  | cons t A => rw [opnd_ne_nil, ps_ne_nil]; rfl
theorem ops_all {k : Nat} {A : List Tok} (hk : k < 64) (hA : ∀ t ∈ A, Good t) : pshape (shp (row k).kind) (A.map conv) ⟨k + 1, 0, 0, 0, 0⟩ [] = (opnd A (formOf (row k).kind) [] 0 ⟨#[]⟩).map (both k) := by
  rcases kinds k hk with h | h | h | h | h | h | h | h | h | h
  · exact ops_R hA h
  · exact ops_I hA h
  · exact ops_L hA h
  · exact ops_H hA h
  · exact ops_W hA h
  · exact ops_S hA h
  · exact ops_B hA h
  · exact ops_U hA h
  · exact ops_J hA h
  · exact ops_N h
end Pn
namespace Pn
open Go
def fin (x : Ins × ByteArray × Int) : Ins × Int := if x.2.2 = 0 then (x.1, 0) else (⟨0, 0, 0, 0, 0⟩, x.2.2)
theorem row_names : ∀ k, k < 64 → (row k).name ≠ [] ∧ ∀ c ∈ (row k).name, smallB c.toNat = true := by decide
theorem byName_bad {T : List UInt8} (h : ∃ d ∈ T, smallB d.toNat = false) : (List.range 64).find? (byName ⟨T.toArray⟩) = none := by
  obtain ⟨d, hd, hs⟩ := h
  apply find_none
  intro k hk
  obtain ⟨_, h2⟩ := row_names k hk
  unfold byName
  apply beq_false_of_ne
  intro e
  rw [ByteArray.toList_eq] at e
  have e' : (row k).name = T := by simpa using e
  rw [← e'] at hd
  rw [h2 d hd] at hs; cases hs
theorem pplain_noname {nm : ByteArray} {l : List Pc} (h : (List.range 64).find? (byName nm) = none) : pplain nm l = (⟨0, 0, 0, 0, 0⟩, 4) := by simp only [pplain, h]
theorem pplain_noshape {nm : ByteArray} {l : List Pc} (h : ∀ k, k < 64 → pshape (shp (row k).kind) l ⟨k + 1, 0, 0, 0, 0⟩ [] = none) : pplain nm l = (⟨0, 0, 0, 0, 0⟩, 4) := by
  unfold pplain
  cases hf : (List.range 64).find? (byName nm) with
  | none => rfl
  | some k =>
    have hk : k < 64 := by rw [List.find?_range_eq_some] at hf; simpa using hf.2.1
    simp only [h k hk]
theorem pshape_bad : ∀ (F : List UInt8) (l : List Pc) (i : Ins) (tg : List UInt8), (∃ p ∈ l, ∀ r ∈ F, ∀ i tg, pstep r p.1 p.2 i tg = none) → pshape F l i tg = none
  | [], [], _, _, h => by obtain ⟨p, hp, _⟩ := h; simp at hp
  | [], q :: l, _, _, _ => by simp [pshape]
  | r :: F, [], _, _, _ => by simp [pshape]
  | r :: F, (k, t) :: l, i, tg, h => by
    obtain ⟨p, hp, hb⟩ := h
    simp only [pshape]
    rcases List.mem_cons.1 hp with rfl | hp
    · rw [hb r (by simp)]; rfl
    · cases pstep r k t i tg with
      | none => rfl
      | some s => exact pshape_bad F l s.1 s.2 ⟨p, hp, fun r hr => hb r (by simp [hr])⟩
theorem parse_digs : ∀ (l : List UInt8) (acc u : Nat), Lib.parseUint10 acc l = .ok u → ∀ c ∈ l, 48 ≤ c.toNat ∧ c.toNat ≤ 57
  | [], _, _, _, c, hc => by simp at hc
  | d :: l, acc, u, h, c, hc => by
    simp only [Lib.parseUint10] at h
    split at h
    · rename_i hd
      split at h
      · cases h
      · split at h
        · cases h
        · rcases List.mem_cons.1 hc with rfl | hc
          · exact hd
          · exact parse_digs l _ u h c hc
    · cases h
theorem atoi_nodot {l : List UInt8} {v : Int} (h : Lib.atoiAll l = .ok v) : (46 : UInt8) ∉ l := by
  intro hd
  unfold Lib.atoiAll at h
  cases l with
  | nil => simp at hd
  | cons c r =>
    simp only at h
    have hx : (46 : UInt8) ∈ (if c.toNat = 43 ∨ c.toNat = 45 then r else c :: r) := by
      split
      · rename_i hc
        rcases List.mem_cons.1 hd with e | e
        · rw [← e] at hc; exact absurd hc (by decide)
        · exact e
      · exact hd
    generalize (if c.toNat = 43 ∨ c.toNat = 45 then r else c :: r) = x at h hx
    cases hp : Lib.parseMag x with
    | ok u =>
      unfold Lib.parseMag at hp
      split at hp
      · cases hp
      · exact absurd (parse_digs _ _ _ hp 46 hx) (by decide)
    | _ => rw [hp] at h; cases h
theorem dot_step {t : List UInt8} (h : (46 : UInt8) ∈ t) (r : UInt8) (hr : Lett r) (i : Ins) (tg : List UInt8) : pstep r 1 t i tg = none := by
  have h1 : preg t = none := by
    unfold preg
    split
    · rename_i hp
      cases ha : Lib.atoiAll (Lib.trimPrefix t [120]) with
      | ok v =>
        exfalso
        refine atoi_nodot ha ?_
        unfold Lib.trimPrefix
        rw [if_pos hp]
        cases t with
        | nil => simp at h
        | cons c t =>
          rcases List.mem_cons.1 h with e | e
          · rw [← e] at hp; exact absurd hp (by simp [Lib.hasPrefix, List.isPrefixOf])
          · simpa using e
      | _ => rfl
    · rfl
  have h2 : pnum 1 t = none := by simp [pnum]
  have h3 : isNm 1 t = false := by
    have := Lib.contains_iff_indexByte t 46
    have hc : t.contains 46 = true := by simpa using h
    rw [hc] at this
    simp [isNm, ← this]
  have h4 : ∀ f : UInt8, f ≠ 46 → t ≠ [f] := fun f hf e => by rw [e] at h; simp at h; exact hf h.symm
  rcases hr with rfl | rfl | rfl | rfl | rfl | rfl | rfl | rfl
  · rw [sp_d, h1]; rfl
  · rw [sp_s, h1]; rfl
  · rw [sp_t, h1]; rfl
  · rw [sp_i, h2]; rfl
  · rw [sp_p, h3, h2]; rfl
  · rw [sp_44, if_neg (h4 44 (by decide))]
  · rw [sp_40, if_neg (h4 40 (by decide))]
  · rw [sp_41, if_neg (h4 41 (by decide))]
/-- pieces as cut makes them -/
def WfP (ps : List Pc) : Prop := ∀ p ∈ ps, ∃ c r, p.2 = c :: r ∧ beg c.toNat = some p.1
theorem cutM_wf : ∀ (l : List UInt8) (k : Int) (t : List UInt8) (A : List Pc), cutM l k t = some A → (k = 0 ∨ ∃ c r, t = c :: r ∧ beg c.toNat = some k) → WfP A
  | [], k, t, A, h, ht => by
    simp only [cutM, endP] at h
    split at h
    · cases h; intro p hp; simp at hp
    · split at h
      · cases h
        intro p hp
        rw [List.mem_singleton.1 hp]
        rcases ht with h0 | ⟨c, r, h1, h2⟩
        · rename_i hk _; exact absurd h0 hk
        · exact ⟨c, r, h1, h2⟩
      · cases h
  | c :: l, k, t, A, h, ht => by
    by_cases hg : goes k c.toNat = true
    · rw [cutM_goes hg] at h
      refine cutM_wf l k (t ++ [c]) A h ?_
      rcases ht with h0 | ⟨d, r, h1, h2⟩
      · exact .inl h0
      · exact .inr ⟨d, r ++ [c], by rw [h1]; rfl, h2⟩
    · have hg' : goes k c.toNat = false := by simpa using hg
      cases he : endP k t with
      | none => rw [cutM_end hg' he] at h; cases h
      | some ps =>
        cases hb : beg c.toNat with
        | none => rw [cutM_beg hg' hb] at h; cases h
        | some k' =>
          rw [cutM_next hg' he hb] at h
          cases hc : cutM l k' [c] with
          | none => rw [hc] at h; cases h
          | some B =>
            rw [hc] at h
            simp only [Option.map_some, Option.some.injEq] at h
            subst h
            have hB := cutM_wf l k' [c] B hc (.inr ⟨c, [], rfl, hb⟩)
            intro p hp
            rcases List.mem_append.1 hp with h1 | h1
            · unfold endP at he
              split at he
              · cases he; simp at h1
              · split at he
                · cases he
                  rw [List.mem_singleton.1 h1]
                  rcases ht with h0 | ⟨d, r, h2, h3⟩
                  · rename_i hk _; exact absurd h0 hk
                  · exact ⟨d, r, h2, h3⟩
                · cases he
            · exact hB p h1
abbrev Mark (r : UInt8) : Prop := r = 44 ∨ r = 40 ∨ r = 41
def Alt : List UInt8 → Prop
  | [] => True
  | [_] => True
  | r :: s :: F => (Mark r ∨ Mark s) ∧ Alt (s :: F)
theorem shp_alt {kd : Nat} (h : kindsOk kd) : Alt (shp kd) := by
  rcases h with rfl | rfl | rfl | rfl | rfl | rfl | rfl | rfl | rfl | rfl <;> simp [shp, Alt, Mark]
theorem mark_step {r : UInt8} (hr : Mark r) {k : Int} {t : List UInt8} {i : Ins} {tg : List UInt8} {s : Ins × List UInt8} (h : pstep r k t i tg = some s) : t = [r] := by
  rcases hr with rfl | rfl | rfl
  · rw [sp_44] at h; split at h; assumption; cases h
  · rw [sp_40] at h; split at h; assumption; cases h
  · rw [sp_41] at h; split at h; assumption; cases h
theorem mark_beg {r : UInt8} (hr : Mark r) : beg r.toNat = some 3 := by rcases hr with rfl | rfl | rfl <;> decide
theorem pshape_adj : ∀ (F : List UInt8) (l : List Pc) (i : Ins) (tg : List UInt8), Alt F → WfP l → Adj l → pshape F l i tg = none
  | [], [], _, _, _, _, h => by obtain ⟨j, a, b, h1, _⟩ := h; simp at h1
  | [], q :: l, _, _, _, _, _ => by simp [pshape]
  | r :: F, [], _, _, _, _, _ => by simp [pshape]
  | r :: F, (k, t) :: l, i, tg, hF, hw, ha => by
    simp only [pshape]
    cases hs : pstep r k t i tg with
    | none => rfl
    | some s =>
      simp only [Option.bind_some]
      obtain ⟨j, a, b, h1, h2, h3, h4⟩ := ha
      have hwl : WfP l := fun p hp => hw p (by simp [hp])
      cases j with
      | zero =>
        simp at h1
        have hk : k = 2 := by rw [← h1] at h3; exact h3
        have hnm : ¬ Mark r := fun hm => by
          have e := mark_step hm hs
          obtain ⟨c, q, hc1, hc2⟩ := hw (k, t) (by simp)
          simp only at hc1 hc2
          rw [e] at hc1
          cases hc1
          rw [mark_beg hm] at hc2
          cases hc2; omega
        cases l with
        | nil => simp at h2
        | cons p l =>
          obtain ⟨k', t'⟩ := p
          simp at h2
          have hk' : k' = 1 := by rw [← h2] at h4; exact h4
          cases F with
          | nil => rfl
          | cons r' F =>
            have hm : Mark r' := by rcases hF.1 with h | h; exact absurd h hnm; exact h
            simp only [pshape]
            cases hs' : pstep r' k' t' s.1 s.2 with
            | none => rfl
            | some s' =>
              exfalso
              have e := mark_step hm hs'
              obtain ⟨c, q, hc1, hc2⟩ := hwl (k', t') (by simp)
              simp only at hc1 hc2
              rw [e] at hc1
              cases hc1
              rw [mark_beg hm] at hc2
              cases hc2; omega
      | succ j =>
        refine pshape_adj F l s.1 s.2 ?_ hwl ⟨j, a, b, by simpa using h1, by simpa using h2, h3, h4⟩
        cases F with
        | nil => trivial
        | cons r' F => exact hF.2
theorem prd_some {s : ByteArray} (h1 : ¬ 2000 < s.size) (h2 : ¬ 0 ≤ Lib.indexByte s.data.toList 10) : prd s = match cutM (Lib.cut s.data.toList [35]).1 0 [] with
    | none => (⟨0, 0, 0, 0, 0⟩, 4)
    | some [] => (⟨0, 0, 0, 0, 0⟩, 4)
    | some (p :: l) => pplain ⟨p.2.toArray⟩ l := by
  unfold prd
  rw [if_neg (by rintro (a | a); exact h1 a; exact h2 a)]
  rfl
theorem adj_4 {p : Pc} {l : List Pc} (hw : WfP (p :: l)) (ha : Adj (p :: l)) : pplain ⟨p.2.toArray⟩ l = (⟨0, 0, 0, 0, 0⟩, 4) := by
  obtain ⟨j, a, b, h1, h2, h3, h4⟩ := ha
  cases j with
  | zero =>
    simp at h1
    obtain ⟨c, r, hc1, hc2⟩ := hw p (by simp)
    apply pplain_noname
    apply byName_bad
    refine ⟨c, by rw [hc1]; simp, ?_⟩
    rw [h1, h3] at hc2
    cases hs : smallB c.toNat with
    | false => rfl
    | true => simp [beg, hs] at hc2
  | succ j =>
    apply pplain_noshape
    intro k hk
    exact pshape_adj _ _ _ _ (shp_alt (kinds_ok k hk)) (fun q hq => hw q (by simp [hq])) ⟨j, a, b, by simpa using h1, by simpa using h2, h3, h4⟩
theorem dot_4 {p : Pc} {l : List Pc} (h : ∃ q ∈ p :: l, q.1 = 1 ∧ (46 : UInt8) ∈ q.2) : pplain ⟨p.2.toArray⟩ l = (⟨0, 0, 0, 0, 0⟩, 4) := by
  obtain ⟨q, hq, h1, h2⟩ := h
  rcases List.mem_cons.1 hq with rfl | hq
  · apply pplain_noname
    apply byName_bad
    exact ⟨46, h2, by decide⟩
  · apply pplain_noshape
    intro k hk
    refine pshape_bad _ _ _ _ ⟨q, hq, fun r hr i tg => ?_⟩
    rw [h1]
    exact dot_step h2 r (shp_lett (kinds_ok k hk) r hr) i tg
theorem opnd_dot : ∀ (l : List Tok) (F : List UInt8) (rs : List Int) (n : Int) (nm : ByteArray), (∃ t ∈ l, t.kind = 46) → (∀ f ∈ F, f ≠ 46) → opnd l F rs n nm = none
  | [], _, _, _, _, h, _ => by obtain ⟨t, ht, _⟩ := h; simp at ht
  | t :: l, [], _, _, _, _, _ => by simp [opnd]
  | t :: l, f :: F, rs, n, nm, h, hF => by
    obtain ⟨u, hu, hk⟩ := h
    rcases List.mem_cons.1 hu with rfl | hu
    · have hr : regV u.kind u.S = -1 := regV_no (fun hx => by omega)
      simp only [opnd]
      split
      · rw [if_pos (by rw [hr]; decide)]
      · rw [if_neg (fun x => by omega), if_neg (fun x => by omega), if_neg]
        intro x
        have : f = 46 := u8_eq (n := 46) (by rw [x.1, hk]; rfl)
        exact hF f (by simp) this
    · have ih := fun rs n nm => opnd_dot l F rs n nm ⟨u, hu, hk⟩ (fun g hg => hF g (by simp [hg]))
      simp only [opnd]
      repeat' split
      all_goals first | rfl | exact ih _ _ _
theorem formOf_nodot (kd : Nat) : ∀ f ∈ formOf kd, f ≠ 46 := by
  unfold formOf
  repeat' split
  all_goals decide
theorem plain_dot {t : Tok} {A : List Tok} (h : ∃ u ∈ t :: A, u.kind = 46) : plain t A false = (⟨0, 0, 0, 0, 0⟩, ⟨#[]⟩, 4) := by
  obtain ⟨u, hu, hk⟩ := h
  cases hf : (List.range 64).find? (named t) with
  | none => exact plain_noname hf A false
  | some k =>
    rcases List.mem_cons.1 hu with rfl | hu
    · exfalso
      have := List.find?_some hf
      simp [named, hk] at this
    · exact plain_none hf (opnd_dot _ _ _ _ _ ⟨u, hu, hk⟩ (formOf_nodot _)) false
theorem named_byName {t : Tok} (h : Good t) : (List.range 64).find? (named t) = (List.range 64).find? (byName ⟨t.text.toArray⟩) := by
  rcases h with ⟨hk, _⟩ | hx
  · congr 1
    funext k
    unfold named byName
    rw [hk, ByteArray.toList_eq]
    have e : (ByteArray.mk t.text.toArray).data.toList = t.text := by simp
    rw [e]
    simp only [beq_self_eq_true, Bool.true_and]
    exact BEq.comm
  · have hk : t.kind ≠ 119 ∧ ∃ d ∈ t.text, smallB d.toNat = false := by
      rcases hx with ⟨hk, _, c, r, h1, h2⟩ | ⟨hk, c, h1, _, h2⟩
      · exact ⟨by omega, c, by rw [h1]; simp, h2⟩
      · exact ⟨by omega, c, by rw [h1]; simp, h2⟩
    rw [byName_bad hk.2]
    apply find_none
    intro k _
    have : (t.kind == 119) = false := beq_false_of_ne hk.1
    simp [named, this]
theorem preg_bd {T : List UInt8} {v : Int} (h : preg T = some v) (hT : ∀ c ∈ T, alnum c = true) : 0 ≤ v ∧ v ≤ 31 := by
  obtain ⟨u, hu, rfl, _⟩ := preg_inv hT h
  omega
theorem opnd_bds : ∀ (l : List Tok) (F : List UInt8) (rs : List Int) (n : Int) (nm : ByteArray) (rs' : List Int) (n' : Int) (nm' : ByteArray), opnd l F rs n nm = some (rs', n', nm') → (∀ v ∈ rs, 0 ≤ v ∧ v ≤ 31) → (∀ v ∈ rs', 0 ≤ v ∧ v ≤ 31)
  | [], [], rs, n, nm, rs', n', nm', h, hr => by simp [opnd] at h; rw [← h.1]; exact hr
  | [], f :: F, _, _, _, _, _, _, h, _ => by simp [opnd] at h
  | t :: l, [], _, _, _, _, _, _, h, _ => by simp [opnd] at h
  | t :: l, f :: F, rs, n, nm, rs', n', nm', h, hr => by
    simp only [opnd] at h
    split at h
    · split at h
      · cases h
      · rename_i hv
        refine opnd_bds l F _ _ _ _ _ _ h (fun v hv' => ?_)
        rcases List.mem_append.1 hv' with h1 | h1
        · exact hr v h1
        · rw [List.mem_singleton.1 h1]
          have := regV_bd t.kind t.S
          omega
    · repeat' split at h
      all_goals first | exact opnd_bds l F _ _ _ _ _ _ h hr | cases h
end Pn
namespace Pn
open Go
theorem opnd_no116 : ∀ (l : List Tok) (F : List UInt8) (rs : List Int) (n : Int) (nm : ByteArray) (rs' : List Int) (n' : Int) (nm' : ByteArray), opnd l F rs n nm = some (rs', n', nm') → (∀ f ∈ F, f ≠ 116) → nm' = nm
  | [], [], rs, n, nm, rs', n', nm', h, _ => by simp [opnd] at h; exact h.2.2.symm
  | [], f :: F, _, _, _, _, _, _, h, _ => by simp [opnd] at h
  | t :: l, [], _, _, _, _, _, _, h, _ => by simp [opnd] at h
  | t :: l, f :: F, rs, n, nm, rs', n', nm', h, hF => by
    have hF' : ∀ g ∈ F, g ≠ 116 := fun g hg => hF g (by simp [hg])
    have hf : f ≠ 116 := hF f (by simp)
    simp only [opnd] at h
    split at h
    · split at h
      · cases h
      · exact opnd_no116 l F _ _ _ _ _ _ h hF'
    · split at h
      · exact opnd_no116 l F _ _ _ _ _ _ h hF'
      · split at h
        · rename_i hx; exact absurd hx.1 hf
        · split at h
          · exact opnd_no116 l F _ _ _ _ _ _ h hF'
          · cases h
theorem opnd_one116 : ∀ (l : List Tok) (G : List UInt8) (rs : List Int) (n : Int) (nm : ByteArray) (rs' : List Int) (n' : Int) (nm' : ByteArray), opnd l (G ++ [116]) rs n nm = some (rs', n', nm') → (∀ f ∈ G, f ≠ 105 ∧ f ≠ 116) → n' = n ∨ nm' = nm
  | [], [], rs, n, nm, rs', n', nm', h, _ => by simp [opnd] at h
  | [], f :: F, _, _, _, _, _, _, h, _ => by simp [opnd] at h
  | t :: l, [], rs, n, nm, rs', n', nm', h, _ => by
    simp only [List.nil_append, opnd] at h
    split at h
    · rename_i hx; exact absurd hx (by decide)
    · split at h
      · cases l with
        | nil => simp [opnd] at h; exact .inr h.2.2.symm
        | cons a l => simp [opnd] at h
      · split at h
        · cases l with
          | nil => simp [opnd] at h; exact .inl h.2.1.symm
          | cons a l => simp [opnd] at h
        · split at h
          · cases l with
            | nil => simp [opnd] at h; exact .inl h.2.1.symm
            | cons a l => simp [opnd] at h
          · cases h
  | t :: l, f :: G, rs, n, nm, rs', n', nm', h, hG => by
    have hG' : ∀ g ∈ G, g ≠ 105 ∧ g ≠ 116 := fun g hg => hG g (by simp [hg])
    have hf := hG f (by simp)
    simp only [List.cons_append, opnd] at h
    split at h
    · split at h
      · cases h
      · exact opnd_one116 l G _ _ _ _ _ _ h hG'
    · split at h
      · rename_i hx; rcases hx.1 with e | e; exact absurd e hf.1; exact absurd e hf.2
      · split at h
        · rename_i hx; exact absurd hx.1 hf.2
        · split at h
          · exact opnd_one116 l G _ _ _ _ _ _ h hG'
          · cases h
theorem getD_bd {rs : List Int} (h : ∀ v ∈ rs, 0 ≤ v ∧ v ≤ 31) (i : Nat) : 0 ≤ rs.getD i 0 ∧ rs.getD i 0 ≤ 31 := by
  rw [List.getD_eq_getElem?_getD]
  cases hq : rs[i]? with
  | none => simp
  | some v => exact h v (List.mem_of_getElem? hq)
theorem target_right {k : Nat} (hk : k < 64) {A : List Tok} {rs : List Int} {n : Int} {nm : ByteArray} (h : opnd A (formOf (row k).kind) [] 0 ⟨#[]⟩ = some (rs, n, nm)) (hn : nm.data.toList ≠ []) : right (insOf k rs n) = true := by
  have hb := opnd_bds _ _ _ _ _ _ _ _ h (fun v hv => by simp at hv)
  have g0 := getD_bd hb 0
  have g1 := getD_bd hb 1
  have no : (∀ f ∈ formOf (row k).kind, f ≠ 116) → False := fun hF => by
    have := opnd_no116 _ _ _ _ _ _ _ _ h hF
    rw [this] at hn; exact hn rfl
  rcases kinds k hk with q | q | q | q | q | q | q | q | q | q
  · exact (no (by rw [q]; decide)).elim
  · exact (no (by rw [q]; decide)).elim
  · exact (no (by rw [q]; decide)).elim
  · exact (no (by rw [q]; decide)).elim
  · exact (no (by rw [q]; decide)).elim
  · exact (no (by rw [q]; decide)).elim
  · have h0 : n = 0 := by
      rw [q] at h
      rcases opnd_one116 A [114, 44, 114, 44] [] 0 ⟨#[]⟩ rs n nm h (by decide) with e | e
      · exact e
      · rw [e] at hn; exact absurd rfl hn
    rw [insOf_B k _ _ q, h0, right_succ _ _ _ _ _ hk, q]
    generalize rs.getD 0 0 = x at *
    generalize rs.getD 1 0 = y at *
    simp [has, register, between, fitsImm]; omega
  · exact (no (by rw [q]; decide)).elim
  · have h0 : n = 0 := by
      rw [q] at h
      rcases opnd_one116 A [114, 44] [] 0 ⟨#[]⟩ rs n nm h (by decide) with e | e
      · exact e
      · rw [e] at hn; exact absurd rfl hn
    rw [insOf_U k _ _ (.inr q), h0, right_succ _ _ _ _ _ hk, q]
    generalize rs.getD 0 0 = x at *
    generalize rs.getD 1 0 = y at *
    simp [has, register, between, fitsImm]; omega
  · exact (no (by rw [q]; decide)).elim
/-- a line of good tokens: both answer the same -/
theorem good_same {t : Tok} {A : List Tok} (h : ∀ u ∈ t :: A, Good u) : pplain ⟨t.text.toArray⟩ (A.map conv) = (if (plain t A false).2.2 = 0 then ((plain t A false).1, 0) else (⟨0, 0, 0, 0, 0⟩, (plain t A false).2.2)) := by
  have ht := h t (by simp)
  have hA : ∀ u ∈ A, Good u := fun u hu => h u (by simp [hu])
  have hn := named_byName ht
  cases hf : (List.range 64).find? (named t) with
  | none =>
    rw [plain_noname hf A false, pplain_noname (by rw [← hn]; exact hf)]
    rfl
  | some k =>
    have hk : k < 64 := by rw [List.find?_range_eq_some] at hf; simpa using hf.2.1
    have hf2 : (List.range 64).find? (byName ⟨t.text.toArray⟩) = some k := by rw [← hn]; exact hf
    have ho := ops_all hk hA
    cases hq : opnd A (formOf (row k).kind) [] 0 ⟨#[]⟩ with
    | none =>
      rw [hq] at ho
      rw [plain_none hf hq false]
      simp only [pplain, hf2]
      rw [ho]; rfl
    | some x =>
      obtain ⟨rs, n, nm⟩ := x
      rw [hq] at ho
      have ho' : pshape (shp (row k).kind) (A.map conv) ⟨k + 1, 0, 0, 0, 0⟩ [] = some (insOf k rs n, nm.data.toList) := ho
      by_cases hnm : nm.data.toList = []
      · have he : nm.toList.isEmpty = true := by rw [ByteArray.toList_eq, hnm]; rfl
        rw [plain_some hf hq (.inl he)]
        simp only [pplain, hf2]
        rw [ho']
        simp only [hnm, if_true]
        by_cases hr : right (insOf k rs n) = true
        · rw [if_pos hr, if_pos hr, if_pos rfl]
        · rw [if_neg hr, if_neg hr, if_neg (by decide)]
      · have he : nm.toList.isEmpty = false := by
          rw [ByteArray.toList_eq]
          cases hl : nm.data.toList with
          | nil => exact absurd hl hnm
          | cons a b => rfl
        rw [plain_target hf hq he]
        simp only [pplain, hf2]
        rw [ho']
        simp only
        rw [if_pos (target_right hk hq hnm), if_neg hnm]
        rfl
theorem cnt_pos (s : ByteArray) : (0 < cnt s 10 s.size) ↔ (10 : UInt8) ∈ s.data.toList := by
  have key : ∀ k, k ≤ s.size → ((0 < cnt s 10 k) ↔ ∃ j, j < k ∧ B s j = 10) := by
    intro k
    induction k with
    | zero => intro _; simp [cnt]
    | succ k ih =>
      intro hk
      have ih' := ih (by omega)
      have hb := (cnt_bd s 10 k).1
      simp only [cnt]
      constructor
      · intro h
        split at h
        · rename_i hq; exact ⟨k, by omega, u8_eq (n := 10) hq⟩
        · obtain ⟨j, h1, h2⟩ := ih'.1 (by omega)
          exact ⟨j, by omega, h2⟩
      · rintro ⟨j, h1, h2⟩
        by_cases e : j = k
        · subst e
          rw [if_pos (by rw [h2]; rfl)]; omega
        · have := ih'.2 ⟨j, by omega, h2⟩
          split <;> omega
  rw [key s.size (Nat.le_refl _)]
  constructor
  · rintro ⟨j, h1, h2⟩
    rw [← B_eq s j h1] at h2
    rw [← h2]
    show s.data[j] ∈ s.data.toList
    exact Array.mem_toList_iff.2 (Array.getElem_mem _)
  · intro h
    obtain ⟨j, hj, he⟩ := List.getElem_of_mem h
    have hj' : j < s.size := by simpa using hj
    refine ⟨j, hj', ?_⟩
    rw [← B_eq s j hj', ← he]
    rfl
theorem cut_hash (l : List UInt8) : ∃ rest, l = (Lib.cut l [35]).1 ++ rest ∧ (rest = [] ∨ ∃ q, rest = 35 :: q) ∧ (35 : UInt8) ∉ (Lib.cut l [35]).1 := by
  unfold Lib.cut
  rw [Lib.index_one]
  by_cases h : 0 ≤ Lib.indexByte l 35
  · rw [if_pos h]
    obtain ⟨o, ho⟩ := Int.eq_ofNat_of_zero_le h
    obtain ⟨h1, h2⟩ := Lib.indexByte_some ho
    rw [ho]
    simp only [Int.toNat_natCast]
    have hlt : o < l.length := by
      rcases Nat.lt_or_ge o l.length with h | h
      · exact h
      · rw [List.getElem?_eq_none h] at h1; cases h1
    refine ⟨l.drop o, (List.take_append_drop o l).symm, .inr ⟨l.drop (o + 1), ?_⟩, fun hm => ?_⟩
    · rw [List.drop_eq_getElem_cons hlt]
      rw [List.getElem?_eq_getElem hlt] at h1
      rw [Option.some.inj h1]
    · obtain ⟨j, hj, he⟩ := List.getElem_of_mem hm
      have hjo : j < o := by simp at hj; omega
      refine h2 j hjo ?_
      rw [List.getElem_take] at he
      rw [List.getElem?_eq_getElem (by omega), he]
  · rw [if_neg h]
    refine ⟨[], by simp, .inl rfl, fun hm => ?_⟩
    have := Lib.indexByte_ge l 35
    have hn : Lib.indexByte l 35 = -1 := by omega
    obtain ⟨j, hj, he⟩ := List.getElem_of_mem hm
    exact Lib.indexByte_none hn j (by rw [List.getElem?_eq_getElem hj, he])
/-- THE PROGRAM's READ IS THE DOCUMENT's -/
theorem prd_rd (s : ByteArray) : prd s = rd s := by
  by_cases h1 : 2000 < s.size
  · rw [rd_long h1]; unfold prd; rw [if_pos (.inl h1)]
  · by_cases h2 : 0 ≤ Lib.indexByte s.data.toList 10
    · have hm : (10 : UInt8) ∈ s.data.toList := by
        have := Lib.contains_iff_indexByte s.data.toList 10
        rw [decide_eq_true h2] at this
        simpa using this
      have hc := (cnt_pos s).2 hm
      have e : prd s = (⟨0, 0, 0, 0, 0⟩, 4) := by unfold prd; rw [if_pos (.inr h2)]
      rw [e]
      cases ht : toks s.data.toList false with
      | none => rw [rd_none h1 ht]
      | some A =>
        cases A with
        | nil => rw [rd_nil h1 ht]
        | cons t l => rw [rd_lf h1 ht hc]
    · have hc : ¬ 0 < cnt s 10 s.size := fun hx => by
        have hm := (cnt_pos s).1 hx
        have := Lib.contains_iff_indexByte s.data.toList 10
        rw [decide_eq_false h2] at this
        have hcc : s.data.toList.contains 10 = true := by simpa using hm
        rw [hcc] at this; cases this
      rw [prd_some h1 h2]
      obtain ⟨rest, hl, hr, h35⟩ := cut_hash s.data.toList
      have htk : toks s.data.toList false = toks (Lib.cut s.data.toList [35]).1 false := by
        conv => lhs; rw [hl]
        exact toks_app hr _ _ _ (Nat.le_refl _)
      generalize (Lib.cut s.data.toList [35]).1 = L at *
      by_cases h46 : (46 : UInt8) ∈ L
      · have hrd : rd s = (⟨0, 0, 0, 0, 0⟩, 4) := by
          cases ht : toks L false with
          | none => exact rd_none h1 (htk.trans ht)
          | some A =>
            cases A with
            | nil => exact rd_nil h1 (htk.trans ht)
            | cons t l =>
              have hd := plain_dot (toks_dot _ L false _ (Nat.le_refl _) h46 h35 ht)
              rw [rd_bad h1 (htk.trans ht) hc (by rw [hd]; decide), hd]
        rw [hrd]
        cases hcm : cutM L 0 [] with
        | none => rfl
        | some ps =>
          cases ps with
          | nil => rfl
          | cons p l => exact dot_4 (cutM_dot L 0 [] _ hcm (.inl h46))
      · rcases rel_main _ L false (Nat.le_refl _) h46 h35 with ⟨A, ha, hb, hg⟩ | ⟨ha, hb⟩
        · rw [hb]
          cases A with
          | nil => rw [rd_nil h1 (htk.trans ha)]; rfl
          | cons t l =>
            show pplain ⟨t.text.toArray⟩ (l.map conv) = _
            rw [good_same hg]
            by_cases hz : (plain t l false).2.2 = 0
            · rw [if_pos hz, rd_ok h1 (htk.trans ha) hc hz]
            · rw [if_neg hz, rd_bad h1 (htk.trans ha) hc hz]
        · rw [rd_none h1 (htk.trans ha)]
          rcases hb with hb | ⟨ps, hb, had⟩
          · rw [hb]
          · rw [hb]
            cases ps with
            | nil => rfl
            | cons p l => exact adj_4 (cutM_wf L 0 [] _ hb (.inl rfl)) had
end Pn
