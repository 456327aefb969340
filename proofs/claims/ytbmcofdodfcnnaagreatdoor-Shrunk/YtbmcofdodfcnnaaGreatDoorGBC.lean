import Derived.Test.YtbmcofdodfcnnaaGreatDoorGFK
namespace Pn
/-- P at every number that has these digits -/
def allFit (P : Nat → Bool) : List UInt8 → Nat → Bool
  | [], a => P a
  | c :: r, a => if c = 48 then allFit P r (2 * a) else if c = 49 then allFit P r (2 * a + 1) else allFit P r (2 * a) && allFit P r (2 * a + 1)
theorem allFit_at (P : Nat → Bool) : ∀ (l : List UInt8) (a n : Nat), allFit P l a = true → n / 2 ^ l.length = a →
    (∀ j, j < l.length → (l.getD j 0 = 48 → n / 2 ^ (l.length - 1 - j) % 2 = 0) ∧ (l.getD j 0 = 49 → n / 2 ^ (l.length - 1 - j) % 2 = 1)) → P n = true
  | [], a, n, h, hn, _ => by
    simp at hn; subst hn; exact h
  | c :: r, a, n, h, hn, hd => by
    have e : n / 2 ^ r.length / 2 = a := by rw [Nat.div_div_eq_div_mul]; simpa [Nat.pow_succ] using hn
    have h0 := hd 0 (by simp)
    simp only [List.getD_cons_zero, List.length_cons, Nat.add_sub_cancel, Nat.sub_zero] at h0
    have hd' : ∀ j, j < r.length → (r.getD j 0 = 48 → n / 2 ^ (r.length - 1 - j) % 2 = 0) ∧ (r.getD j 0 = 49 → n / 2 ^ (r.length - 1 - j) % 2 = 1) := fun j hj => by
      have := hd (j + 1) (by simp; omega)
      simp only [List.getD_cons_succ, List.length_cons, Nat.add_sub_cancel] at this
      have e2 : r.length - (j + 1) = r.length - 1 - j := by omega
      rw [e2] at this
      exact this
    have hb : n / 2 ^ r.length = 2 * a ∨ n / 2 ^ r.length = 2 * a + 1 := by omega
    unfold allFit at h
    by_cases h48 : c = 48
    · rw [if_pos h48] at h
      exact allFit_at P r _ n h (by have := h0.1 h48; omega) hd'
    · rw [if_neg h48] at h
      by_cases h49 : c = 49
      · rw [if_pos h49] at h
        exact allFit_at P r _ n h (by have := h0.2 h49; omega) hd'
      · rw [if_neg h49, Bool.and_eq_true] at h
        rcases hb with hb | hb
        · exact allFit_at P r _ n h.1 hb hd'
        · exact allFit_at P r _ n h.2 hb hd'
/-- what a form reads is right, and written as it was -/
def okAt (k : Nat) (n : Nat) : Bool := decide (writeP (fm k) (readIns (fm k) n) = n) && (right (readIns (fm k) n) || !(holdB (fm k).hold (readIns (fm k) n)))
/-- a number, reckoned out -/
def due {α : Type} (x : Int) (f : Int → α) : α := match x with
  | .ofNat 0 => f 0
  | .ofNat (m + 1) => f (.ofNat (m + 1))
  | .negSucc 0 => f (-1)
  | .negSucc (m + 1) => f (.negSucc (m + 1))
theorem due_eq {α : Type} (x : Int) (f : Int → α) : due x f = f x := by
  unfold due
  split <;> rfl
def pwF (k : Nat) : Int := ((2 ^ k : Nat) : Int)
theorem pwF_eq (k : Nat) : (2 : Int) ^ k = pwF k := by unfold pwF; rw [Int.natCast_pow]; rfl
def btF (n p : Int) : Int := n / pwF p.toNat % 2
theorem btF_eq (n p : Int) : bt n p = btF n p := by
  unfold bt btF bitz bits
  rw [← pwF_eq]
  simp
def orF (a b : Int) : Int := match a, b with
  | .ofNat x, .ofNat y => if Nat.ble x 65535 && Nat.ble y 65535 then .ofNat (x ||| y) else orz a b
  | _, _ => orz a b
theorem orF_eq (a b : Int) : orz a b = orF a b := by
  unfold orF
  split
  · rename_i x y
    split
    · rename_i h
      simp at h
      exact orz_nat x y (by omega) (by omega)
    · rfl
  · rfl
def rgF (p : List Int) (n : Int) : Nat → Int
  | 0 => 0
  | j + 1 => orF (rgF p n j * 2) (btF n (p.getD j 0))
theorem rgF_eq (p : List Int) (n : Int) (j : Nat) : rgR p n j = rgF p n j := by
  induction j with
  | zero => rfl
  | succ j ih => simp only [rgR, rgF, ih, btF_eq, orF_eq]
def wrF (p : List Int) (r : Int) (L : Int) : Nat → Int
  | 0 => 0
  | j + 1 => orF (wrF p r L j) (btF r (L - 1 - j) * pwF (p.getD j 0).toNat)
theorem wrF_eq (p : List Int) (r : Int) (j : Nat) : wrR p r j = wrF p r p.length j := by
  induction j with
  | zero => rfl
  | succ j ih => simp only [wrR, wrF, ih, btF_eq, pwF_eq, orF_eq]
def imF (sg : Bool) (q p : List Int) (n : Int) : Nat → Int
  | 0 => 0
  | j + 1 => orF (imF sg q p n j) (if j = 0 ∧ sg = true then -(btF n (p.getD j 0) * pwF (q.getD j 0).toNat) else btF n (p.getD j 0) * pwF (q.getD j 0).toNat)
theorem imF_eq (f : Fm) (q p : List Int) (n : Int) (j : Nat) (hq : ∀ k, k < j → imB f.order k = q.getD k 0) : imR f p n j = imF f.signed q p n j := by
  induction j with
  | zero => rfl
  | succ j ih => simp only [imR, imF, imTerm, ih (fun k hk => hq k (by omega)), btF_eq, pwF_eq, orF_eq, hq j (by omega)]
def wiF (q p : List Int) (imm h0 : Int) : Nat → Int
  | 0 => h0
  | j + 1 => orF (wiF q p imm h0 j) (btF imm (q.getD j 0) * pwF (p.getD j 0).toNat)
theorem wiF_eq (f : Fm) (q p : List Int) (imm h0 : Int) (j : Nat) (hq : ∀ k, k < j → imB f.order k = q.getD k 0) : wiR f p imm h0 j = wiF q p imm h0 j := by
  induction j with
  | zero => rfl
  | succ j ih => simp only [wiR, wiF, ih (fun k hk => hq k (by omega)), btF_eq, pwF_eq, orF_eq, hq j (by omega)]
def regF (c : Int) (p : List Int) (n : Int) : Int := if c ≤ 31 then c else rgF p n p.length + (if p.length = 3 then 8 else 0)
def rightF (t : Bool × Bool × Bool) (kd : Nat) (a b c d : Int) : Bool := register t.1 a && register t.2.1 b && register t.2.2 c && fitsImm kd d
theorem rightF_eq {o : Nat} {t : Bool × Bool × Bool} {kd : Nat} (ho : o < 64) (ht : has kd = t) (hk : (row o).kind = kd) (a b c d : Int) : right ⟨o + 1, a, b, c, d⟩ = rightF t kd a b c d := by
  rw [right_succ _ _ _ _ _ ho, hk, ht]
  rfl
/-- the same, the places reckoned ahead -/
def okF (f : Fm) (t : Bool × Bool × Bool) (kd : Nat) (p1 p2 p3 pd ps pt pi q : List Int) (one : Int) (n : Nat) : Bool :=
  due (regF f.rd p1 n) fun a => due (regF f.rs1 p2 n) fun b => due (regF f.rs2 p3 n) fun c => due (imF f.signed q pi n pi.length) fun d =>
    decide (wiF q pi d (orF one (orF (orF (wrF pd a pd.length pd.length) (wrF ps b ps.length ps.length)) (wrF pt c pt.length pt.length))) pi.length = n) && (rightF t kd a b c d || !(holdB f.hold ⟨f.op, a, b, c, d⟩))
theorem okF_at (k : Nat) (f : Fm) (o : Nat) (t : Bool × Bool × Bool) (kd : Nat) (p1 p2 p3 pd ps pt pi q : List Int) (one : Int) (hf : fm k = f) (hop : f.op = (o : Int) + 1) (hol : o < 64) (hkd : (row o).kind = kd) (hth : has kd = t) (h1 : places f.half f.rd = p1) (h2 : places f.half f.rs1 = p2) (h3 : places f.half f.rs2 = p3) (hd : places f.half 100 = pd) (hs : places f.half 115 = ps) (ht : places f.half 116 = pt) (hi : places f.half 105 = pi) (hq : ∀ k, k < pi.length → imB f.order k = q.getD k 0) (ho : oneR f.half f.half.length = one) (n : Nat) :
    okF f t kd p1 p2 p3 pd ps pt pi q one n = okAt k n := by
  unfold okF okAt
  simp only [due_eq]
  have er : ∀ a b c d, rightF t kd a b c d = right ⟨f.op, a, b, c, d⟩ := fun a b c d => by rw [hop]; exact (rightF_eq hol hth hkd a b c d).symm
  simp only [er]
  clear er hop hkd hth
  subst hf h1 h2 h3 hd hs ht hi ho
  have e1 : ∀ x, imF (fm k).signed q (places (fm k).half 105) x (places (fm k).half 105).length = immP (fm k) x := fun x => (imF_eq _ _ _ _ _ hq).symm
  have e2 : ∀ i : Ins, wiF q (places (fm k).half 105) i.imm (wbase (fm k) i) (places (fm k).half 105).length = writeP (fm k) i := fun i => (wiF_eq _ _ _ _ _ _ hq).symm
  have e3 : ∀ c x, regF c (places (fm k).half c) x = regP (fm k).half c x := fun c x => by unfold regF regP; rw [rgF_eq]
  simp only [e3, e1, ← wrF_eq, ← orF_eq]
  have e4 := e2 (readIns (fm k) n)
  unfold wbase at e4
  unfold wreg at e4
  unfold readIns at *
  simp only at e4
  rw [e4]
end Pn

namespace Pn
theorem okf_0 : allFit (okF ⟨[48, 48, 48, 105, 105, 105, 105, 105, 105, 105, 105, 100, 100, 100, 48, 48], [53, 52, 57, 56, 55, 54, 50, 51], false, 29, 100, 2, 0, 3⟩ (true, true, false) 73 [4, 3, 2] [] [] [4, 3, 2] [] [] [12, 11, 10, 9, 8, 7, 6, 5] [5, 4, 9, 8, 7, 6, 2, 3] 0) [48, 48, 48, 105, 105, 105, 105, 105, 105, 105, 105, 100, 100, 100, 48, 48] 0 = true := by decide +kernel
theorem ok_0 : allFit (okAt 0) (fm 0).half 0 = true := by
  have e : okF ⟨[48, 48, 48, 105, 105, 105, 105, 105, 105, 105, 105, 100, 100, 100, 48, 48], [53, 52, 57, 56, 55, 54, 50, 51], false, 29, 100, 2, 0, 3⟩ (true, true, false) 73 [4, 3, 2] [] [] [4, 3, 2] [] [] [12, 11, 10, 9, 8, 7, 6, 5] [5, 4, 9, 8, 7, 6, 2, 3] 0 = okAt 0 := funext (okF_at 0 ⟨[48, 48, 48, 105, 105, 105, 105, 105, 105, 105, 105, 100, 100, 100, 48, 48], [53, 52, 57, 56, 55, 54, 50, 51], false, 29, 100, 2, 0, 3⟩ 28 (true, true, false) 73 [4, 3, 2] [] [] [4, 3, 2] [] [] [12, 11, 10, 9, 8, 7, 6, 5] [5, 4, 9, 8, 7, 6, 2, 3] 0 rfl rfl (by decide) rfl rfl rfl rfl rfl rfl rfl rfl rfl (by decide) (by decide +kernel))
  rw [← e]
  exact okf_0
theorem okf_1 : allFit (okF ⟨[48, 49, 48, 105, 105, 105, 115, 115, 115, 105, 105, 100, 100, 100, 48, 48], [53, 52, 51, 50, 54], false, 44, 100, 115, 0, 0⟩ (true, true, false) 76 [4, 3, 2] [9, 8, 7] [] [4, 3, 2] [9, 8, 7] [] [12, 11, 10, 6, 5] [5, 4, 3, 2, 6] 16384) [48, 49, 48, 105, 105, 105, 115, 115, 115, 105, 105, 100, 100, 100, 48, 48] 0 = true := by decide +kernel
theorem ok_1 : allFit (okAt 1) (fm 1).half 0 = true := by
  have e : okF ⟨[48, 49, 48, 105, 105, 105, 115, 115, 115, 105, 105, 100, 100, 100, 48, 48], [53, 52, 51, 50, 54], false, 44, 100, 115, 0, 0⟩ (true, true, false) 76 [4, 3, 2] [9, 8, 7] [] [4, 3, 2] [9, 8, 7] [] [12, 11, 10, 6, 5] [5, 4, 3, 2, 6] 16384 = okAt 1 := funext (okF_at 1 ⟨[48, 49, 48, 105, 105, 105, 115, 115, 115, 105, 105, 100, 100, 100, 48, 48], [53, 52, 51, 50, 54], false, 44, 100, 115, 0, 0⟩ 43 (true, true, false) 76 [4, 3, 2] [9, 8, 7] [] [4, 3, 2] [9, 8, 7] [] [12, 11, 10, 6, 5] [5, 4, 3, 2, 6] 16384 rfl rfl (by decide) rfl rfl rfl rfl rfl rfl rfl rfl rfl (by decide) (by decide +kernel))
  rw [← e]
  exact okf_1
theorem okf_2 : allFit (okF ⟨[48, 49, 49, 105, 105, 105, 115, 115, 115, 105, 105, 100, 100, 100, 48, 48], [53, 52, 51, 55, 54], false, 45, 100, 115, 0, 0⟩ (true, true, false) 76 [4, 3, 2] [9, 8, 7] [] [4, 3, 2] [9, 8, 7] [] [12, 11, 10, 6, 5] [5, 4, 3, 7, 6] 24576) [48, 49, 49, 105, 105, 105, 115, 115, 115, 105, 105, 100, 100, 100, 48, 48] 0 = true := by decide +kernel
theorem ok_2 : allFit (okAt 2) (fm 2).half 0 = true := by
  have e : okF ⟨[48, 49, 49, 105, 105, 105, 115, 115, 115, 105, 105, 100, 100, 100, 48, 48], [53, 52, 51, 55, 54], false, 45, 100, 115, 0, 0⟩ (true, true, false) 76 [4, 3, 2] [9, 8, 7] [] [4, 3, 2] [9, 8, 7] [] [12, 11, 10, 6, 5] [5, 4, 3, 7, 6] 24576 = okAt 2 := funext (okF_at 2 ⟨[48, 49, 49, 105, 105, 105, 115, 115, 115, 105, 105, 100, 100, 100, 48, 48], [53, 52, 51, 55, 54], false, 45, 100, 115, 0, 0⟩ 44 (true, true, false) 76 [4, 3, 2] [9, 8, 7] [] [4, 3, 2] [9, 8, 7] [] [12, 11, 10, 6, 5] [5, 4, 3, 7, 6] 24576 rfl rfl (by decide) rfl rfl rfl rfl rfl rfl rfl rfl rfl (by decide) (by decide +kernel))
  rw [← e]
  exact okf_2
theorem okf_3 : allFit (okF ⟨[49, 49, 48, 105, 105, 105, 115, 115, 115, 105, 105, 116, 116, 116, 48, 48], [53, 52, 51, 50, 54], false, 52, 0, 115, 116, 0⟩ (false, true, true) 83 [] [9, 8, 7] [4, 3, 2] [] [9, 8, 7] [4, 3, 2] [12, 11, 10, 6, 5] [5, 4, 3, 2, 6] 49152) [49, 49, 48, 105, 105, 105, 115, 115, 115, 105, 105, 116, 116, 116, 48, 48] 0 = true := by decide +kernel
theorem ok_3 : allFit (okAt 3) (fm 3).half 0 = true := by
  have e : okF ⟨[49, 49, 48, 105, 105, 105, 115, 115, 115, 105, 105, 116, 116, 116, 48, 48], [53, 52, 51, 50, 54], false, 52, 0, 115, 116, 0⟩ (false, true, true) 83 [] [9, 8, 7] [4, 3, 2] [] [9, 8, 7] [4, 3, 2] [12, 11, 10, 6, 5] [5, 4, 3, 2, 6] 49152 = okAt 3 := funext (okF_at 3 ⟨[49, 49, 48, 105, 105, 105, 115, 115, 115, 105, 105, 116, 116, 116, 48, 48], [53, 52, 51, 50, 54], false, 52, 0, 115, 116, 0⟩ 51 (false, true, true) 83 [] [9, 8, 7] [4, 3, 2] [] [9, 8, 7] [4, 3, 2] [12, 11, 10, 6, 5] [5, 4, 3, 2, 6] 49152 rfl rfl (by decide) rfl rfl rfl rfl rfl rfl rfl rfl rfl (by decide) (by decide +kernel))
  rw [← e]
  exact okf_3
theorem okf_4 : allFit (okF ⟨[49, 49, 49, 105, 105, 105, 115, 115, 115, 105, 105, 116, 116, 116, 48, 48], [53, 52, 51, 55, 54], false, 53, 0, 115, 116, 0⟩ (false, true, true) 83 [] [9, 8, 7] [4, 3, 2] [] [9, 8, 7] [4, 3, 2] [12, 11, 10, 6, 5] [5, 4, 3, 7, 6] 57344) [49, 49, 49, 105, 105, 105, 115, 115, 115, 105, 105, 116, 116, 116, 48, 48] 0 = true := by decide +kernel
theorem ok_4 : allFit (okAt 4) (fm 4).half 0 = true := by
  have e : okF ⟨[49, 49, 49, 105, 105, 105, 115, 115, 115, 105, 105, 116, 116, 116, 48, 48], [53, 52, 51, 55, 54], false, 53, 0, 115, 116, 0⟩ (false, true, true) 83 [] [9, 8, 7] [4, 3, 2] [] [9, 8, 7] [4, 3, 2] [12, 11, 10, 6, 5] [5, 4, 3, 7, 6] 57344 = okAt 4 := funext (okF_at 4 ⟨[49, 49, 49, 105, 105, 105, 115, 115, 115, 105, 105, 116, 116, 116, 48, 48], [53, 52, 51, 55, 54], false, 53, 0, 115, 116, 0⟩ 52 (false, true, true) 83 [] [9, 8, 7] [4, 3, 2] [] [9, 8, 7] [4, 3, 2] [12, 11, 10, 6, 5] [5, 4, 3, 7, 6] 57344 rfl rfl (by decide) rfl rfl rfl rfl rfl rfl rfl rfl rfl (by decide) (by decide +kernel))
  rw [← e]
  exact okf_4
theorem okf_5 : allFit (okF ⟨[48, 48, 48, 105, 100, 100, 100, 100, 100, 105, 105, 105, 105, 105, 48, 49], [53, 52, 51, 50, 49, 48], true, 29, 100, 100, 0, 6⟩ (true, true, false) 73 [11, 10, 9, 8, 7] [11, 10, 9, 8, 7] [] [11, 10, 9, 8, 7] [] [] [12, 6, 5, 4, 3, 2] [5, 4, 3, 2, 1, 0] 1) [48, 48, 48, 105, 100, 100, 100, 100, 100, 105, 105, 105, 105, 105, 48, 49] 0 = true := by decide +kernel
theorem ok_5 : allFit (okAt 5) (fm 5).half 0 = true := by
  have e : okF ⟨[48, 48, 48, 105, 100, 100, 100, 100, 100, 105, 105, 105, 105, 105, 48, 49], [53, 52, 51, 50, 49, 48], true, 29, 100, 100, 0, 6⟩ (true, true, false) 73 [11, 10, 9, 8, 7] [11, 10, 9, 8, 7] [] [11, 10, 9, 8, 7] [] [] [12, 6, 5, 4, 3, 2] [5, 4, 3, 2, 1, 0] 1 = okAt 5 := funext (okF_at 5 ⟨[48, 48, 48, 105, 100, 100, 100, 100, 100, 105, 105, 105, 105, 105, 48, 49], [53, 52, 51, 50, 49, 48], true, 29, 100, 100, 0, 6⟩ 28 (true, true, false) 73 [11, 10, 9, 8, 7] [11, 10, 9, 8, 7] [] [11, 10, 9, 8, 7] [] [] [12, 6, 5, 4, 3, 2] [5, 4, 3, 2, 1, 0] 1 rfl rfl (by decide) rfl rfl rfl rfl rfl rfl rfl rfl rfl (by decide) (by decide +kernel))
  rw [← e]
  exact okf_5
theorem okf_6 : allFit (okF ⟨[48, 48, 49, 105, 100, 100, 100, 100, 100, 105, 105, 105, 105, 105, 48, 49], [53, 52, 51, 50, 49, 48], true, 38, 100, 100, 0, 1⟩ (true, true, false) 73 [11, 10, 9, 8, 7] [11, 10, 9, 8, 7] [] [11, 10, 9, 8, 7] [] [] [12, 6, 5, 4, 3, 2] [5, 4, 3, 2, 1, 0] 8193) [48, 48, 49, 105, 100, 100, 100, 100, 100, 105, 105, 105, 105, 105, 48, 49] 0 = true := by decide +kernel
theorem ok_6 : allFit (okAt 6) (fm 6).half 0 = true := by
  have e : okF ⟨[48, 48, 49, 105, 100, 100, 100, 100, 100, 105, 105, 105, 105, 105, 48, 49], [53, 52, 51, 50, 49, 48], true, 38, 100, 100, 0, 1⟩ (true, true, false) 73 [11, 10, 9, 8, 7] [11, 10, 9, 8, 7] [] [11, 10, 9, 8, 7] [] [] [12, 6, 5, 4, 3, 2] [5, 4, 3, 2, 1, 0] 8193 = okAt 6 := funext (okF_at 6 ⟨[48, 48, 49, 105, 100, 100, 100, 100, 100, 105, 105, 105, 105, 105, 48, 49], [53, 52, 51, 50, 49, 48], true, 38, 100, 100, 0, 1⟩ 37 (true, true, false) 73 [11, 10, 9, 8, 7] [11, 10, 9, 8, 7] [] [11, 10, 9, 8, 7] [] [] [12, 6, 5, 4, 3, 2] [5, 4, 3, 2, 1, 0] 8193 rfl rfl (by decide) rfl rfl rfl rfl rfl rfl rfl rfl rfl (by decide) (by decide +kernel))
  rw [← e]
  exact okf_6
theorem okf_7 : allFit (okF ⟨[48, 49, 48, 105, 100, 100, 100, 100, 100, 105, 105, 105, 105, 105, 48, 49], [53, 52, 51, 50, 49, 48], true, 29, 100, 0, 0, 1⟩ (true, true, false) 73 [11, 10, 9, 8, 7] [] [] [11, 10, 9, 8, 7] [] [] [12, 6, 5, 4, 3, 2] [5, 4, 3, 2, 1, 0] 16385) [48, 49, 48, 105, 100, 100, 100, 100, 100, 105, 105, 105, 105, 105, 48, 49] 0 = true := by decide +kernel
theorem ok_7 : allFit (okAt 7) (fm 7).half 0 = true := by
  have e : okF ⟨[48, 49, 48, 105, 100, 100, 100, 100, 100, 105, 105, 105, 105, 105, 48, 49], [53, 52, 51, 50, 49, 48], true, 29, 100, 0, 0, 1⟩ (true, true, false) 73 [11, 10, 9, 8, 7] [] [] [11, 10, 9, 8, 7] [] [] [12, 6, 5, 4, 3, 2] [5, 4, 3, 2, 1, 0] 16385 = okAt 7 := funext (okF_at 7 ⟨[48, 49, 48, 105, 100, 100, 100, 100, 100, 105, 105, 105, 105, 105, 48, 49], [53, 52, 51, 50, 49, 48], true, 29, 100, 0, 0, 1⟩ 28 (true, true, false) 73 [11, 10, 9, 8, 7] [] [] [11, 10, 9, 8, 7] [] [] [12, 6, 5, 4, 3, 2] [5, 4, 3, 2, 1, 0] 16385 rfl rfl (by decide) rfl rfl rfl rfl rfl rfl rfl rfl rfl (by decide) (by decide +kernel))
  rw [← e]
  exact okf_7
theorem okf_8 : allFit (okF ⟨[48, 49, 49, 105, 48, 48, 48, 49, 48, 105, 105, 105, 105, 105, 48, 49], [57, 52, 54, 56, 55, 53], true, 29, 2, 2, 0, 3⟩ (true, true, false) 73 [] [] [] [] [] [] [12, 6, 5, 4, 3, 2] [9, 4, 6, 8, 7, 5] 24833) [48, 49, 49, 105, 48, 48, 48, 49, 48, 105, 105, 105, 105, 105, 48, 49] 0 = true := by decide +kernel
theorem ok_8 : allFit (okAt 8) (fm 8).half 0 = true := by
  have e : okF ⟨[48, 49, 49, 105, 48, 48, 48, 49, 48, 105, 105, 105, 105, 105, 48, 49], [57, 52, 54, 56, 55, 53], true, 29, 2, 2, 0, 3⟩ (true, true, false) 73 [] [] [] [] [] [] [12, 6, 5, 4, 3, 2] [9, 4, 6, 8, 7, 5] 24833 = okAt 8 := funext (okF_at 8 ⟨[48, 49, 49, 105, 48, 48, 48, 49, 48, 105, 105, 105, 105, 105, 48, 49], [57, 52, 54, 56, 55, 53], true, 29, 2, 2, 0, 3⟩ 28 (true, true, false) 73 [] [] [] [] [] [] [12, 6, 5, 4, 3, 2] [9, 4, 6, 8, 7, 5] 24833 rfl rfl (by decide) rfl rfl rfl rfl rfl rfl rfl rfl rfl (by decide) (by decide +kernel))
  rw [← e]
  exact okf_8
theorem okf_9 : allFit (okF ⟨[48, 49, 49, 105, 100, 100, 100, 100, 100, 105, 105, 105, 105, 105, 48, 49], [53, 52, 51, 50, 49, 48], true, 60, 100, 0, 0, 7⟩ (true, false, false) 85 [11, 10, 9, 8, 7] [] [] [11, 10, 9, 8, 7] [] [] [12, 6, 5, 4, 3, 2] [5, 4, 3, 2, 1, 0] 24577) [48, 49, 49, 105, 100, 100, 100, 100, 100, 105, 105, 105, 105, 105, 48, 49] 0 = true := by decide +kernel
theorem ok_9 : allFit (okAt 9) (fm 9).half 0 = true := by
  have e : okF ⟨[48, 49, 49, 105, 100, 100, 100, 100, 100, 105, 105, 105, 105, 105, 48, 49], [53, 52, 51, 50, 49, 48], true, 60, 100, 0, 0, 7⟩ (true, false, false) 85 [11, 10, 9, 8, 7] [] [] [11, 10, 9, 8, 7] [] [] [12, 6, 5, 4, 3, 2] [5, 4, 3, 2, 1, 0] 24577 = okAt 9 := funext (okF_at 9 ⟨[48, 49, 49, 105, 100, 100, 100, 100, 100, 105, 105, 105, 105, 105, 48, 49], [53, 52, 51, 50, 49, 48], true, 60, 100, 0, 0, 7⟩ 59 (true, false, false) 85 [11, 10, 9, 8, 7] [] [] [11, 10, 9, 8, 7] [] [] [12, 6, 5, 4, 3, 2] [5, 4, 3, 2, 1, 0] 24577 rfl rfl (by decide) rfl rfl rfl rfl rfl rfl rfl rfl rfl (by decide) (by decide +kernel))
  rw [← e]
  exact okf_9
theorem okf_10 : allFit (okF ⟨[49, 48, 48, 105, 48, 48, 100, 100, 100, 105, 105, 105, 105, 105, 48, 49], [53, 52, 51, 50, 49, 48], false, 36, 100, 100, 0, 3⟩ (true, true, false) 72 [9, 8, 7] [9, 8, 7] [] [9, 8, 7] [] [] [12, 6, 5, 4, 3, 2] [5, 4, 3, 2, 1, 0] 32769) [49, 48, 48, 105, 48, 48, 100, 100, 100, 105, 105, 105, 105, 105, 48, 49] 0 = true := by decide +kernel
theorem ok_10 : allFit (okAt 10) (fm 10).half 0 = true := by
  have e : okF ⟨[49, 48, 48, 105, 48, 48, 100, 100, 100, 105, 105, 105, 105, 105, 48, 49], [53, 52, 51, 50, 49, 48], false, 36, 100, 100, 0, 3⟩ (true, true, false) 72 [9, 8, 7] [9, 8, 7] [] [9, 8, 7] [] [] [12, 6, 5, 4, 3, 2] [5, 4, 3, 2, 1, 0] 32769 = okAt 10 := funext (okF_at 10 ⟨[49, 48, 48, 105, 48, 48, 100, 100, 100, 105, 105, 105, 105, 105, 48, 49], [53, 52, 51, 50, 49, 48], false, 36, 100, 100, 0, 3⟩ 35 (true, true, false) 72 [9, 8, 7] [9, 8, 7] [] [9, 8, 7] [] [] [12, 6, 5, 4, 3, 2] [5, 4, 3, 2, 1, 0] 32769 rfl rfl (by decide) rfl rfl rfl rfl rfl rfl rfl rfl rfl (by decide) (by decide +kernel))
  rw [← e]
  exact okf_10
theorem okf_11 : allFit (okF ⟨[49, 48, 48, 105, 48, 49, 100, 100, 100, 105, 105, 105, 105, 105, 48, 49], [53, 52, 51, 50, 49, 48], false, 37, 100, 100, 0, 3⟩ (true, true, false) 72 [9, 8, 7] [9, 8, 7] [] [9, 8, 7] [] [] [12, 6, 5, 4, 3, 2] [5, 4, 3, 2, 1, 0] 33793) [49, 48, 48, 105, 48, 49, 100, 100, 100, 105, 105, 105, 105, 105, 48, 49] 0 = true := by decide +kernel
theorem ok_11 : allFit (okAt 11) (fm 11).half 0 = true := by
  have e : okF ⟨[49, 48, 48, 105, 48, 49, 100, 100, 100, 105, 105, 105, 105, 105, 48, 49], [53, 52, 51, 50, 49, 48], false, 37, 100, 100, 0, 3⟩ (true, true, false) 72 [9, 8, 7] [9, 8, 7] [] [9, 8, 7] [] [] [12, 6, 5, 4, 3, 2] [5, 4, 3, 2, 1, 0] 33793 = okAt 11 := funext (okF_at 11 ⟨[49, 48, 48, 105, 48, 49, 100, 100, 100, 105, 105, 105, 105, 105, 48, 49], [53, 52, 51, 50, 49, 48], false, 37, 100, 100, 0, 3⟩ 36 (true, true, false) 72 [9, 8, 7] [9, 8, 7] [] [9, 8, 7] [] [] [12, 6, 5, 4, 3, 2] [5, 4, 3, 2, 1, 0] 33793 rfl rfl (by decide) rfl rfl rfl rfl rfl rfl rfl rfl rfl (by decide) (by decide +kernel))
  rw [← e]
  exact okf_11
theorem okf_12 : allFit (okF ⟨[49, 48, 48, 105, 49, 48, 100, 100, 100, 105, 105, 105, 105, 105, 48, 49], [53, 52, 51, 50, 49, 48], true, 34, 100, 100, 0, 0⟩ (true, true, false) 73 [9, 8, 7] [9, 8, 7] [] [9, 8, 7] [] [] [12, 6, 5, 4, 3, 2] [5, 4, 3, 2, 1, 0] 34817) [49, 48, 48, 105, 49, 48, 100, 100, 100, 105, 105, 105, 105, 105, 48, 49] 0 = true := by decide +kernel
theorem ok_12 : allFit (okAt 12) (fm 12).half 0 = true := by
  have e : okF ⟨[49, 48, 48, 105, 49, 48, 100, 100, 100, 105, 105, 105, 105, 105, 48, 49], [53, 52, 51, 50, 49, 48], true, 34, 100, 100, 0, 0⟩ (true, true, false) 73 [9, 8, 7] [9, 8, 7] [] [9, 8, 7] [] [] [12, 6, 5, 4, 3, 2] [5, 4, 3, 2, 1, 0] 34817 = okAt 12 := funext (okF_at 12 ⟨[49, 48, 48, 105, 49, 48, 100, 100, 100, 105, 105, 105, 105, 105, 48, 49], [53, 52, 51, 50, 49, 48], true, 34, 100, 100, 0, 0⟩ 33 (true, true, false) 73 [9, 8, 7] [9, 8, 7] [] [9, 8, 7] [] [] [12, 6, 5, 4, 3, 2] [5, 4, 3, 2, 1, 0] 34817 rfl rfl (by decide) rfl rfl rfl rfl rfl rfl rfl rfl rfl (by decide) (by decide +kernel))
  rw [← e]
  exact okf_12
theorem okf_13 : allFit (okF ⟨[49, 48, 48, 48, 49, 49, 100, 100, 100, 48, 48, 116, 116, 116, 48, 49], [], false, 2, 100, 100, 116, 0⟩ (true, true, true) 82 [9, 8, 7] [9, 8, 7] [4, 3, 2] [9, 8, 7] [] [4, 3, 2] [] [] 35841) [49, 48, 48, 48, 49, 49, 100, 100, 100, 48, 48, 116, 116, 116, 48, 49] 0 = true := by decide +kernel
theorem ok_13 : allFit (okAt 13) (fm 13).half 0 = true := by
  have e : okF ⟨[49, 48, 48, 48, 49, 49, 100, 100, 100, 48, 48, 116, 116, 116, 48, 49], [], false, 2, 100, 100, 116, 0⟩ (true, true, true) 82 [9, 8, 7] [9, 8, 7] [4, 3, 2] [9, 8, 7] [] [4, 3, 2] [] [] 35841 = okAt 13 := funext (okF_at 13 ⟨[49, 48, 48, 48, 49, 49, 100, 100, 100, 48, 48, 116, 116, 116, 48, 49], [], false, 2, 100, 100, 116, 0⟩ 1 (true, true, true) 82 [9, 8, 7] [9, 8, 7] [4, 3, 2] [9, 8, 7] [] [4, 3, 2] [] [] 35841 rfl rfl (by decide) rfl rfl rfl rfl rfl rfl rfl rfl rfl (by decide) (by decide +kernel))
  rw [← e]
  exact okf_13
theorem okf_14 : allFit (okF ⟨[49, 48, 48, 48, 49, 49, 100, 100, 100, 48, 49, 116, 116, 116, 48, 49], [], false, 6, 100, 100, 116, 0⟩ (true, true, true) 82 [9, 8, 7] [9, 8, 7] [4, 3, 2] [9, 8, 7] [] [4, 3, 2] [] [] 35873) [49, 48, 48, 48, 49, 49, 100, 100, 100, 48, 49, 116, 116, 116, 48, 49] 0 = true := by decide +kernel
theorem ok_14 : allFit (okAt 14) (fm 14).half 0 = true := by
  have e : okF ⟨[49, 48, 48, 48, 49, 49, 100, 100, 100, 48, 49, 116, 116, 116, 48, 49], [], false, 6, 100, 100, 116, 0⟩ (true, true, true) 82 [9, 8, 7] [9, 8, 7] [4, 3, 2] [9, 8, 7] [] [4, 3, 2] [] [] 35873 = okAt 14 := funext (okF_at 14 ⟨[49, 48, 48, 48, 49, 49, 100, 100, 100, 48, 49, 116, 116, 116, 48, 49], [], false, 6, 100, 100, 116, 0⟩ 5 (true, true, true) 82 [9, 8, 7] [9, 8, 7] [4, 3, 2] [9, 8, 7] [] [4, 3, 2] [] [] 35873 rfl rfl (by decide) rfl rfl rfl rfl rfl rfl rfl rfl rfl (by decide) (by decide +kernel))
  rw [← e]
  exact okf_14
theorem okf_15 : allFit (okF ⟨[49, 48, 48, 48, 49, 49, 100, 100, 100, 49, 48, 116, 116, 116, 48, 49], [], false, 9, 100, 100, 116, 0⟩ (true, true, true) 82 [9, 8, 7] [9, 8, 7] [4, 3, 2] [9, 8, 7] [] [4, 3, 2] [] [] 35905) [49, 48, 48, 48, 49, 49, 100, 100, 100, 49, 48, 116, 116, 116, 48, 49] 0 = true := by decide +kernel
theorem ok_15 : allFit (okAt 15) (fm 15).half 0 = true := by
  have e : okF ⟨[49, 48, 48, 48, 49, 49, 100, 100, 100, 49, 48, 116, 116, 116, 48, 49], [], false, 9, 100, 100, 116, 0⟩ (true, true, true) 82 [9, 8, 7] [9, 8, 7] [4, 3, 2] [9, 8, 7] [] [4, 3, 2] [] [] 35905 = okAt 15 := funext (okF_at 15 ⟨[49, 48, 48, 48, 49, 49, 100, 100, 100, 49, 48, 116, 116, 116, 48, 49], [], false, 9, 100, 100, 116, 0⟩ 8 (true, true, true) 82 [9, 8, 7] [9, 8, 7] [4, 3, 2] [9, 8, 7] [] [4, 3, 2] [] [] 35905 rfl rfl (by decide) rfl rfl rfl rfl rfl rfl rfl rfl rfl (by decide) (by decide +kernel))
  rw [← e]
  exact okf_15
theorem okf_16 : allFit (okF ⟨[49, 48, 48, 48, 49, 49, 100, 100, 100, 49, 49, 116, 116, 116, 48, 49], [], false, 10, 100, 100, 116, 0⟩ (true, true, true) 82 [9, 8, 7] [9, 8, 7] [4, 3, 2] [9, 8, 7] [] [4, 3, 2] [] [] 35937) [49, 48, 48, 48, 49, 49, 100, 100, 100, 49, 49, 116, 116, 116, 48, 49] 0 = true := by decide +kernel
theorem ok_16 : allFit (okAt 16) (fm 16).half 0 = true := by
  have e : okF ⟨[49, 48, 48, 48, 49, 49, 100, 100, 100, 49, 49, 116, 116, 116, 48, 49], [], false, 10, 100, 100, 116, 0⟩ (true, true, true) 82 [9, 8, 7] [9, 8, 7] [4, 3, 2] [9, 8, 7] [] [4, 3, 2] [] [] 35937 = okAt 16 := funext (okF_at 16 ⟨[49, 48, 48, 48, 49, 49, 100, 100, 100, 49, 49, 116, 116, 116, 48, 49], [], false, 10, 100, 100, 116, 0⟩ 9 (true, true, true) 82 [9, 8, 7] [9, 8, 7] [4, 3, 2] [9, 8, 7] [] [4, 3, 2] [] [] 35937 rfl rfl (by decide) rfl rfl rfl rfl rfl rfl rfl rfl rfl (by decide) (by decide +kernel))
  rw [← e]
  exact okf_16
theorem okf_17 : allFit (okF ⟨[49, 48, 48, 49, 49, 49, 100, 100, 100, 48, 48, 116, 116, 116, 48, 49], [], false, 20, 100, 100, 116, 0⟩ (true, true, true) 82 [9, 8, 7] [9, 8, 7] [4, 3, 2] [9, 8, 7] [] [4, 3, 2] [] [] 39937) [49, 48, 48, 49, 49, 49, 100, 100, 100, 48, 48, 116, 116, 116, 48, 49] 0 = true := by decide +kernel
theorem ok_17 : allFit (okAt 17) (fm 17).half 0 = true := by
  have e : okF ⟨[49, 48, 48, 49, 49, 49, 100, 100, 100, 48, 48, 116, 116, 116, 48, 49], [], false, 20, 100, 100, 116, 0⟩ (true, true, true) 82 [9, 8, 7] [9, 8, 7] [4, 3, 2] [9, 8, 7] [] [4, 3, 2] [] [] 39937 = okAt 17 := funext (okF_at 17 ⟨[49, 48, 48, 49, 49, 49, 100, 100, 100, 48, 48, 116, 116, 116, 48, 49], [], false, 20, 100, 100, 116, 0⟩ 19 (true, true, true) 82 [9, 8, 7] [9, 8, 7] [4, 3, 2] [9, 8, 7] [] [4, 3, 2] [] [] 39937 rfl rfl (by decide) rfl rfl rfl rfl rfl rfl rfl rfl rfl (by decide) (by decide +kernel))
  rw [← e]
  exact okf_17
theorem okf_18 : allFit (okF ⟨[49, 48, 48, 49, 49, 49, 100, 100, 100, 48, 49, 116, 116, 116, 48, 49], [], false, 19, 100, 100, 116, 0⟩ (true, true, true) 82 [9, 8, 7] [9, 8, 7] [4, 3, 2] [9, 8, 7] [] [4, 3, 2] [] [] 39969) [49, 48, 48, 49, 49, 49, 100, 100, 100, 48, 49, 116, 116, 116, 48, 49] 0 = true := by decide +kernel
theorem ok_18 : allFit (okAt 18) (fm 18).half 0 = true := by
  have e : okF ⟨[49, 48, 48, 49, 49, 49, 100, 100, 100, 48, 49, 116, 116, 116, 48, 49], [], false, 19, 100, 100, 116, 0⟩ (true, true, true) 82 [9, 8, 7] [9, 8, 7] [4, 3, 2] [9, 8, 7] [] [4, 3, 2] [] [] 39969 = okAt 18 := funext (okF_at 18 ⟨[49, 48, 48, 49, 49, 49, 100, 100, 100, 48, 49, 116, 116, 116, 48, 49], [], false, 19, 100, 100, 116, 0⟩ 18 (true, true, true) 82 [9, 8, 7] [9, 8, 7] [4, 3, 2] [9, 8, 7] [] [4, 3, 2] [] [] 39969 rfl rfl (by decide) rfl rfl rfl rfl rfl rfl rfl rfl rfl (by decide) (by decide +kernel))
  rw [← e]
  exact okf_18
theorem okf_19 : allFit (okF ⟨[49, 48, 49, 105, 105, 105, 105, 105, 105, 105, 105, 105, 105, 105, 48, 49], [98, 52, 57, 56, 97, 54, 55, 51, 50, 49, 53], true, 62, 0, 0, 0, 0⟩ (true, false, false) 74 [] [] [] [] [] [] [12, 11, 10, 9, 8, 7, 6, 5, 4, 3, 2] [11, 4, 9, 8, 10, 6, 7, 3, 2, 1, 5] 40961) [49, 48, 49, 105, 105, 105, 105, 105, 105, 105, 105, 105, 105, 105, 48, 49] 0 = true := by decide +kernel
theorem ok_19 : allFit (okAt 19) (fm 19).half 0 = true := by
  have e : okF ⟨[49, 48, 49, 105, 105, 105, 105, 105, 105, 105, 105, 105, 105, 105, 48, 49], [98, 52, 57, 56, 97, 54, 55, 51, 50, 49, 53], true, 62, 0, 0, 0, 0⟩ (true, false, false) 74 [] [] [] [] [] [] [12, 11, 10, 9, 8, 7, 6, 5, 4, 3, 2] [11, 4, 9, 8, 10, 6, 7, 3, 2, 1, 5] 40961 = okAt 19 := funext (okF_at 19 ⟨[49, 48, 49, 105, 105, 105, 105, 105, 105, 105, 105, 105, 105, 105, 48, 49], [98, 52, 57, 56, 97, 54, 55, 51, 50, 49, 53], true, 62, 0, 0, 0, 0⟩ 61 (true, false, false) 74 [] [] [] [] [] [] [12, 11, 10, 9, 8, 7, 6, 5, 4, 3, 2] [11, 4, 9, 8, 10, 6, 7, 3, 2, 1, 5] 40961 rfl rfl (by decide) rfl rfl rfl rfl rfl rfl rfl rfl rfl (by decide) (by decide +kernel))
  rw [← e]
  exact okf_19
theorem okf_20 : allFit (okF ⟨[49, 49, 48, 105, 105, 105, 115, 115, 115, 105, 105, 105, 105, 105, 48, 49], [56, 52, 51, 55, 54, 50, 49, 53], true, 54, 0, 115, 0, 0⟩ (false, true, true) 66 [] [9, 8, 7] [] [] [9, 8, 7] [] [12, 11, 10, 6, 5, 4, 3, 2] [8, 4, 3, 7, 6, 2, 1, 5] 49153) [49, 49, 48, 105, 105, 105, 115, 115, 115, 105, 105, 105, 105, 105, 48, 49] 0 = true := by decide +kernel
theorem ok_20 : allFit (okAt 20) (fm 20).half 0 = true := by
  have e : okF ⟨[49, 49, 48, 105, 105, 105, 115, 115, 115, 105, 105, 105, 105, 105, 48, 49], [56, 52, 51, 55, 54, 50, 49, 53], true, 54, 0, 115, 0, 0⟩ (false, true, true) 66 [] [9, 8, 7] [] [] [9, 8, 7] [] [12, 11, 10, 6, 5, 4, 3, 2] [8, 4, 3, 7, 6, 2, 1, 5] 49153 = okAt 20 := funext (okF_at 20 ⟨[49, 49, 48, 105, 105, 105, 115, 115, 115, 105, 105, 105, 105, 105, 48, 49], [56, 52, 51, 55, 54, 50, 49, 53], true, 54, 0, 115, 0, 0⟩ 53 (false, true, true) 66 [] [9, 8, 7] [] [] [9, 8, 7] [] [12, 11, 10, 6, 5, 4, 3, 2] [8, 4, 3, 7, 6, 2, 1, 5] 49153 rfl rfl (by decide) rfl rfl rfl rfl rfl rfl rfl rfl rfl (by decide) (by decide +kernel))
  rw [← e]
  exact okf_20
theorem okf_21 : allFit (okF ⟨[49, 49, 49, 105, 105, 105, 115, 115, 115, 105, 105, 105, 105, 105, 48, 49], [56, 52, 51, 55, 54, 50, 49, 53], true, 55, 0, 115, 0, 0⟩ (false, true, true) 66 [] [9, 8, 7] [] [] [9, 8, 7] [] [12, 11, 10, 6, 5, 4, 3, 2] [8, 4, 3, 7, 6, 2, 1, 5] 57345) [49, 49, 49, 105, 105, 105, 115, 115, 115, 105, 105, 105, 105, 105, 48, 49] 0 = true := by decide +kernel
theorem ok_21 : allFit (okAt 21) (fm 21).half 0 = true := by
  have e : okF ⟨[49, 49, 49, 105, 105, 105, 115, 115, 115, 105, 105, 105, 105, 105, 48, 49], [56, 52, 51, 55, 54, 50, 49, 53], true, 55, 0, 115, 0, 0⟩ (false, true, true) 66 [] [9, 8, 7] [] [] [9, 8, 7] [] [12, 11, 10, 6, 5, 4, 3, 2] [8, 4, 3, 7, 6, 2, 1, 5] 57345 = okAt 21 := funext (okF_at 21 ⟨[49, 49, 49, 105, 105, 105, 115, 115, 115, 105, 105, 105, 105, 105, 48, 49], [56, 52, 51, 55, 54, 50, 49, 53], true, 55, 0, 115, 0, 0⟩ 54 (false, true, true) 66 [] [9, 8, 7] [] [] [9, 8, 7] [] [12, 11, 10, 6, 5, 4, 3, 2] [8, 4, 3, 7, 6, 2, 1, 5] 57345 rfl rfl (by decide) rfl rfl rfl rfl rfl rfl rfl rfl rfl (by decide) (by decide +kernel))
  rw [← e]
  exact okf_21
theorem okf_22 : allFit (okF ⟨[48, 48, 48, 105, 100, 100, 100, 100, 100, 105, 105, 105, 105, 105, 49, 48], [53, 52, 51, 50, 49, 48], false, 35, 100, 100, 0, 5⟩ (true, true, false) 72 [11, 10, 9, 8, 7] [11, 10, 9, 8, 7] [] [11, 10, 9, 8, 7] [] [] [12, 6, 5, 4, 3, 2] [5, 4, 3, 2, 1, 0] 2) [48, 48, 48, 105, 100, 100, 100, 100, 100, 105, 105, 105, 105, 105, 49, 48] 0 = true := by decide +kernel
theorem ok_22 : allFit (okAt 22) (fm 22).half 0 = true := by
  have e : okF ⟨[48, 48, 48, 105, 100, 100, 100, 100, 100, 105, 105, 105, 105, 105, 49, 48], [53, 52, 51, 50, 49, 48], false, 35, 100, 100, 0, 5⟩ (true, true, false) 72 [11, 10, 9, 8, 7] [11, 10, 9, 8, 7] [] [11, 10, 9, 8, 7] [] [] [12, 6, 5, 4, 3, 2] [5, 4, 3, 2, 1, 0] 2 = okAt 22 := funext (okF_at 22 ⟨[48, 48, 48, 105, 100, 100, 100, 100, 100, 105, 105, 105, 105, 105, 49, 48], [53, 52, 51, 50, 49, 48], false, 35, 100, 100, 0, 5⟩ 34 (true, true, false) 72 [11, 10, 9, 8, 7] [11, 10, 9, 8, 7] [] [11, 10, 9, 8, 7] [] [] [12, 6, 5, 4, 3, 2] [5, 4, 3, 2, 1, 0] 2 rfl rfl (by decide) rfl rfl rfl rfl rfl rfl rfl rfl rfl (by decide) (by decide +kernel))
  rw [← e]
  exact okf_22
theorem okf_23 : allFit (okF ⟨[48, 49, 48, 105, 100, 100, 100, 100, 100, 105, 105, 105, 105, 105, 49, 48], [53, 52, 51, 50, 55, 54], false, 44, 100, 2, 0, 1⟩ (true, true, false) 76 [11, 10, 9, 8, 7] [] [] [11, 10, 9, 8, 7] [] [] [12, 6, 5, 4, 3, 2] [5, 4, 3, 2, 7, 6] 16386) [48, 49, 48, 105, 100, 100, 100, 100, 100, 105, 105, 105, 105, 105, 49, 48] 0 = true := by decide +kernel
theorem ok_23 : allFit (okAt 23) (fm 23).half 0 = true := by
  have e : okF ⟨[48, 49, 48, 105, 100, 100, 100, 100, 100, 105, 105, 105, 105, 105, 49, 48], [53, 52, 51, 50, 55, 54], false, 44, 100, 2, 0, 1⟩ (true, true, false) 76 [11, 10, 9, 8, 7] [] [] [11, 10, 9, 8, 7] [] [] [12, 6, 5, 4, 3, 2] [5, 4, 3, 2, 7, 6] 16386 = okAt 23 := funext (okF_at 23 ⟨[48, 49, 48, 105, 100, 100, 100, 100, 100, 105, 105, 105, 105, 105, 49, 48], [53, 52, 51, 50, 55, 54], false, 44, 100, 2, 0, 1⟩ 43 (true, true, false) 76 [11, 10, 9, 8, 7] [] [] [11, 10, 9, 8, 7] [] [] [12, 6, 5, 4, 3, 2] [5, 4, 3, 2, 7, 6] 16386 rfl rfl (by decide) rfl rfl rfl rfl rfl rfl rfl rfl rfl (by decide) (by decide +kernel))
  rw [← e]
  exact okf_23
theorem okf_24 : allFit (okF ⟨[48, 49, 49, 105, 100, 100, 100, 100, 100, 105, 105, 105, 105, 105, 49, 48], [53, 52, 51, 56, 55, 54], false, 45, 100, 2, 0, 1⟩ (true, true, false) 76 [11, 10, 9, 8, 7] [] [] [11, 10, 9, 8, 7] [] [] [12, 6, 5, 4, 3, 2] [5, 4, 3, 8, 7, 6] 24578) [48, 49, 49, 105, 100, 100, 100, 100, 100, 105, 105, 105, 105, 105, 49, 48] 0 = true := by decide +kernel
theorem ok_24 : allFit (okAt 24) (fm 24).half 0 = true := by
  have e : okF ⟨[48, 49, 49, 105, 100, 100, 100, 100, 100, 105, 105, 105, 105, 105, 49, 48], [53, 52, 51, 56, 55, 54], false, 45, 100, 2, 0, 1⟩ (true, true, false) 76 [11, 10, 9, 8, 7] [] [] [11, 10, 9, 8, 7] [] [] [12, 6, 5, 4, 3, 2] [5, 4, 3, 8, 7, 6] 24578 = okAt 24 := funext (okF_at 24 ⟨[48, 49, 49, 105, 100, 100, 100, 100, 100, 105, 105, 105, 105, 105, 49, 48], [53, 52, 51, 56, 55, 54], false, 45, 100, 2, 0, 1⟩ 44 (true, true, false) 76 [11, 10, 9, 8, 7] [] [] [11, 10, 9, 8, 7] [] [] [12, 6, 5, 4, 3, 2] [5, 4, 3, 8, 7, 6] 24578 rfl rfl (by decide) rfl rfl rfl rfl rfl rfl rfl rfl rfl (by decide) (by decide +kernel))
  rw [← e]
  exact okf_24
theorem okf_25 : allFit (okF ⟨[49, 48, 48, 48, 115, 115, 115, 115, 115, 48, 48, 48, 48, 48, 49, 48], [], false, 49, 0, 115, 0, 2⟩ (true, true, false) 76 [] [11, 10, 9, 8, 7] [] [] [11, 10, 9, 8, 7] [] [] [] 32770) [49, 48, 48, 48, 115, 115, 115, 115, 115, 48, 48, 48, 48, 48, 49, 48] 0 = true := by decide +kernel
theorem ok_25 : allFit (okAt 25) (fm 25).half 0 = true := by
  have e : okF ⟨[49, 48, 48, 48, 115, 115, 115, 115, 115, 48, 48, 48, 48, 48, 49, 48], [], false, 49, 0, 115, 0, 2⟩ (true, true, false) 76 [] [11, 10, 9, 8, 7] [] [] [11, 10, 9, 8, 7] [] [] [] 32770 = okAt 25 := funext (okF_at 25 ⟨[49, 48, 48, 48, 115, 115, 115, 115, 115, 48, 48, 48, 48, 48, 49, 48], [], false, 49, 0, 115, 0, 2⟩ 48 (true, true, false) 76 [] [11, 10, 9, 8, 7] [] [] [11, 10, 9, 8, 7] [] [] [] 32770 rfl rfl (by decide) rfl rfl rfl rfl rfl rfl rfl rfl rfl (by decide) (by decide +kernel))
  rw [← e]
  exact okf_25
theorem okf_26 : allFit (okF ⟨[49, 48, 48, 48, 100, 100, 100, 100, 100, 116, 116, 116, 116, 116, 49, 48], [], false, 1, 100, 0, 116, 4⟩ (true, true, true) 82 [11, 10, 9, 8, 7] [] [6, 5, 4, 3, 2] [11, 10, 9, 8, 7] [] [6, 5, 4, 3, 2] [] [] 32770) [49, 48, 48, 48, 100, 100, 100, 100, 100, 116, 116, 116, 116, 116, 49, 48] 0 = true := by decide +kernel
theorem ok_26 : allFit (okAt 26) (fm 26).half 0 = true := by
  have e : okF ⟨[49, 48, 48, 48, 100, 100, 100, 100, 100, 116, 116, 116, 116, 116, 49, 48], [], false, 1, 100, 0, 116, 4⟩ (true, true, true) 82 [11, 10, 9, 8, 7] [] [6, 5, 4, 3, 2] [11, 10, 9, 8, 7] [] [6, 5, 4, 3, 2] [] [] 32770 = okAt 26 := funext (okF_at 26 ⟨[49, 48, 48, 48, 100, 100, 100, 100, 100, 116, 116, 116, 116, 116, 49, 48], [], false, 1, 100, 0, 116, 4⟩ 0 (true, true, true) 82 [11, 10, 9, 8, 7] [] [6, 5, 4, 3, 2] [11, 10, 9, 8, 7] [] [6, 5, 4, 3, 2] [] [] 32770 rfl rfl (by decide) rfl rfl rfl rfl rfl rfl rfl rfl rfl (by decide) (by decide +kernel))
  rw [← e]
  exact okf_26
theorem okf_27 : allFit (okF ⟨[49, 48, 48, 49, 48, 48, 48, 48, 48, 48, 48, 48, 48, 48, 49, 48], [], false, 64, 0, 0, 0, 0⟩ (false, false, false) 78 [] [] [] [] [] [] [] [] 36866) [49, 48, 48, 49, 48, 48, 48, 48, 48, 48, 48, 48, 48, 48, 49, 48] 0 = true := by decide +kernel
theorem ok_27 : allFit (okAt 27) (fm 27).half 0 = true := by
  have e : okF ⟨[49, 48, 48, 49, 48, 48, 48, 48, 48, 48, 48, 48, 48, 48, 49, 48], [], false, 64, 0, 0, 0, 0⟩ (false, false, false) 78 [] [] [] [] [] [] [] [] 36866 = okAt 27 := funext (okF_at 27 ⟨[49, 48, 48, 49, 48, 48, 48, 48, 48, 48, 48, 48, 48, 48, 49, 48], [], false, 64, 0, 0, 0, 0⟩ 63 (false, false, false) 78 [] [] [] [] [] [] [] [] 36866 rfl rfl (by decide) rfl rfl rfl rfl rfl rfl rfl rfl rfl (by decide) (by decide +kernel))
  rw [← e]
  exact okf_27
theorem okf_28 : allFit (okF ⟨[49, 48, 48, 49, 115, 115, 115, 115, 115, 48, 48, 48, 48, 48, 49, 48], [], false, 49, 1, 115, 0, 2⟩ (true, true, false) 76 [] [11, 10, 9, 8, 7] [] [] [11, 10, 9, 8, 7] [] [] [] 36866) [49, 48, 48, 49, 115, 115, 115, 115, 115, 48, 48, 48, 48, 48, 49, 48] 0 = true := by decide +kernel
theorem ok_28 : allFit (okAt 28) (fm 28).half 0 = true := by
  have e : okF ⟨[49, 48, 48, 49, 115, 115, 115, 115, 115, 48, 48, 48, 48, 48, 49, 48], [], false, 49, 1, 115, 0, 2⟩ (true, true, false) 76 [] [11, 10, 9, 8, 7] [] [] [11, 10, 9, 8, 7] [] [] [] 36866 = okAt 28 := funext (okF_at 28 ⟨[49, 48, 48, 49, 115, 115, 115, 115, 115, 48, 48, 48, 48, 48, 49, 48], [], false, 49, 1, 115, 0, 2⟩ 48 (true, true, false) 76 [] [11, 10, 9, 8, 7] [] [] [11, 10, 9, 8, 7] [] [] [] 36866 rfl rfl (by decide) rfl rfl rfl rfl rfl rfl rfl rfl rfl (by decide) (by decide +kernel))
  rw [← e]
  exact okf_28
theorem okf_29 : allFit (okF ⟨[49, 48, 48, 49, 100, 100, 100, 100, 100, 116, 116, 116, 116, 116, 49, 48], [], false, 1, 100, 100, 116, 4⟩ (true, true, true) 82 [11, 10, 9, 8, 7] [11, 10, 9, 8, 7] [6, 5, 4, 3, 2] [11, 10, 9, 8, 7] [] [6, 5, 4, 3, 2] [] [] 36866) [49, 48, 48, 49, 100, 100, 100, 100, 100, 116, 116, 116, 116, 116, 49, 48] 0 = true := by decide +kernel
theorem ok_29 : allFit (okAt 29) (fm 29).half 0 = true := by
  have e : okF ⟨[49, 48, 48, 49, 100, 100, 100, 100, 100, 116, 116, 116, 116, 116, 49, 48], [], false, 1, 100, 100, 116, 4⟩ (true, true, true) 82 [11, 10, 9, 8, 7] [11, 10, 9, 8, 7] [6, 5, 4, 3, 2] [11, 10, 9, 8, 7] [] [6, 5, 4, 3, 2] [] [] 36866 = okAt 29 := funext (okF_at 29 ⟨[49, 48, 48, 49, 100, 100, 100, 100, 100, 116, 116, 116, 116, 116, 49, 48], [], false, 1, 100, 100, 116, 4⟩ 0 (true, true, true) 82 [11, 10, 9, 8, 7] [11, 10, 9, 8, 7] [6, 5, 4, 3, 2] [11, 10, 9, 8, 7] [] [6, 5, 4, 3, 2] [] [] 36866 rfl rfl (by decide) rfl rfl rfl rfl rfl rfl rfl rfl rfl (by decide) (by decide +kernel))
  rw [← e]
  exact okf_29
theorem okf_30 : allFit (okF ⟨[49, 49, 48, 105, 105, 105, 105, 105, 105, 116, 116, 116, 116, 116, 49, 48], [53, 52, 51, 50, 55, 54], false, 52, 0, 2, 116, 0⟩ (false, true, true) 83 [] [] [6, 5, 4, 3, 2] [] [] [6, 5, 4, 3, 2] [12, 11, 10, 9, 8, 7] [5, 4, 3, 2, 7, 6] 49154) [49, 49, 48, 105, 105, 105, 105, 105, 105, 116, 116, 116, 116, 116, 49, 48] 0 = true := by decide +kernel
theorem ok_30 : allFit (okAt 30) (fm 30).half 0 = true := by
  have e : okF ⟨[49, 49, 48, 105, 105, 105, 105, 105, 105, 116, 116, 116, 116, 116, 49, 48], [53, 52, 51, 50, 55, 54], false, 52, 0, 2, 116, 0⟩ (false, true, true) 83 [] [] [6, 5, 4, 3, 2] [] [] [6, 5, 4, 3, 2] [12, 11, 10, 9, 8, 7] [5, 4, 3, 2, 7, 6] 49154 = okAt 30 := funext (okF_at 30 ⟨[49, 49, 48, 105, 105, 105, 105, 105, 105, 116, 116, 116, 116, 116, 49, 48], [53, 52, 51, 50, 55, 54], false, 52, 0, 2, 116, 0⟩ 51 (false, true, true) 83 [] [] [6, 5, 4, 3, 2] [] [] [6, 5, 4, 3, 2] [12, 11, 10, 9, 8, 7] [5, 4, 3, 2, 7, 6] 49154 rfl rfl (by decide) rfl rfl rfl rfl rfl rfl rfl rfl rfl (by decide) (by decide +kernel))
  rw [← e]
  exact okf_30
theorem okf_31 : allFit (okF ⟨[49, 49, 49, 105, 105, 105, 105, 105, 105, 116, 116, 116, 116, 116, 49, 48], [53, 52, 51, 56, 55, 54], false, 53, 0, 2, 116, 0⟩ (false, true, true) 83 [] [] [6, 5, 4, 3, 2] [] [] [6, 5, 4, 3, 2] [12, 11, 10, 9, 8, 7] [5, 4, 3, 8, 7, 6] 57346) [49, 49, 49, 105, 105, 105, 105, 105, 105, 116, 116, 116, 116, 116, 49, 48] 0 = true := by decide +kernel
theorem ok_31 : allFit (okAt 31) (fm 31).half 0 = true := by
  have e : okF ⟨[49, 49, 49, 105, 105, 105, 105, 105, 105, 116, 116, 116, 116, 116, 49, 48], [53, 52, 51, 56, 55, 54], false, 53, 0, 2, 116, 0⟩ (false, true, true) 83 [] [] [6, 5, 4, 3, 2] [] [] [6, 5, 4, 3, 2] [12, 11, 10, 9, 8, 7] [5, 4, 3, 8, 7, 6] 57346 = okAt 31 := funext (okF_at 31 ⟨[49, 49, 49, 105, 105, 105, 105, 105, 105, 116, 116, 116, 116, 116, 49, 48], [53, 52, 51, 56, 55, 54], false, 53, 0, 2, 116, 0⟩ 52 (false, true, true) 83 [] [] [6, 5, 4, 3, 2] [] [] [6, 5, 4, 3, 2] [12, 11, 10, 9, 8, 7] [5, 4, 3, 8, 7, 6] 57346 rfl rfl (by decide) rfl rfl rfl rfl rfl rfl rfl rfl rfl (by decide) (by decide +kernel))
  rw [← e]
  exact okf_31
theorem ok_all : ∀ k, k < 32 → allFit (okAt k) (fm k).half 0 = true
  | 0, _ => ok_0
  | 1, _ => ok_1
  | 2, _ => ok_2
  | 3, _ => ok_3
  | 4, _ => ok_4
  | 5, _ => ok_5
  | 6, _ => ok_6
  | 7, _ => ok_7
  | 8, _ => ok_8
  | 9, _ => ok_9
  | 10, _ => ok_10
  | 11, _ => ok_11
  | 12, _ => ok_12
  | 13, _ => ok_13
  | 14, _ => ok_14
  | 15, _ => ok_15
  | 16, _ => ok_16
  | 17, _ => ok_17
  | 18, _ => ok_18
  | 19, _ => ok_19
  | 20, _ => ok_20
  | 21, _ => ok_21
  | 22, _ => ok_22
  | 23, _ => ok_23
  | 24, _ => ok_24
  | 25, _ => ok_25
  | 26, _ => ok_26
  | 27, _ => ok_27
  | 28, _ => ok_28
  | 29, _ => ok_29
  | 30, _ => ok_30
  | 31, _ => ok_31
  | k + 32, h => absurd h (by omega)
end Pn

namespace Pn
theorem half16 : ∀ k, k < 32 → (fm k).half.length = 16 := by decide
theorem bt_nat (n j : Nat) (hj : j < 16) : bitz (n : Int) (15 - (j : Int)) (15 - (j : Int)) = ((n / 2 ^ (15 - j) % 2 : Nat) : Int) := by
  have e : (15 - (j : Int)).toNat = 15 - j := by omega
  have h := btF_eq (n : Int) (15 - (j : Int))
  unfold bt at h
  rw [h]
  unfold btF pwF
  rw [e]
  omega
/-- what fits has the digits -/
theorem fit_digit {l : List UInt8} {n : Nat} (hl : l.length = 16) (h : fitB l n = true) (j : Nat) (hj : j < 16) :
    (l.getD j 0 = 48 → n / 2 ^ (15 - j) % 2 = 0) ∧ (l.getD j 0 = 49 → n / 2 ^ (15 - j) % 2 = 1) := by
  unfold fitB at h
  rw [List.all_eq_true] at h
  have hj2 := h j (by simp [hl]; exact hj)
  unfold fitJ at hj2
  constructor
  · intro e
    rw [e] at hj2
    simp at hj2
    rw [bt_nat n j hj] at hj2
    omega
  · intro e
    rw [e] at hj2
    simp at hj2
    rw [bt_nat n j hj] at hj2
    omega
theorem ok_fit {k n : Nat} (hk : k < 32) (hn : n < 65536) (h : fitB (fm k).half n = true) : okAt k n = true := by
  have hl := half16 k hk
  refine allFit_at (okAt k) (fm k).half 0 n (ok_all k hk) (by rw [hl]; omega) (fun j hj => ?_)
  rw [hl] at hj ⊢
  exact fit_digit hl h j hj
/-- do two halves' digits part them? -/
def partB (l m : List UInt8) : Bool := (List.range 16).any fun j => (l.getD j 0 == 48 && m.getD j 0 == 49) || (l.getD j 0 == 49 && m.getD j 0 == 48)
theorem part_no {l m : List UInt8} {n : Nat} (hl : l.length = 16) (hm : m.length = 16) (h : partB l m = true) (h1 : fitB l n = true) (h2 : fitB m n = true) : False := by
  unfold partB at h
  rw [List.any_eq_true] at h
  obtain ⟨j, hj, h⟩ := h
  have hj : j < 16 := by simpa using hj
  have d1 := fit_digit hl h1 j hj
  have d2 := fit_digit hm h2 j hj
  simp at h
  rcases h with ⟨a, b⟩ | ⟨a, b⟩
  · have := d1.1 a; have := d2.2 b; omega
  · have := d1.2 a; have := d2.1 b; omega
def spec (j k : Nat) : Bool := (j == 8 && k == 9) || (j == 25 && k == 26) || (j == 27 && k == 28) || (j == 27 && k == 29) || (j == 28 && k == 29)
theorem parted0 : ((List.range 32).all fun j => (List.range 32).all fun k => !(decide (j < k)) || partB (fm j).half (fm k).half || spec j k) = true := by decide +kernel
theorem parted {j k : Nat} (hk : k < 32) (hjk : j < k) : partB (fm j).half (fm k).half = true ∨ spec j k = true := by
  have h := parted0
  rw [List.all_eq_true] at h
  have h1 := h j (by simp; omega)
  rw [List.all_eq_true] at h1
  have h2 := h1 k (by simp; omega)
  simp [hjk] at h2
  exact h2
/-- the second doesn't hold where the first fits -/
def noHold (k n : Nat) : Bool := !(holdB (fm k).hold (readIns (fm k) n))
theorem no_8_9 : allFit (noHold 9) (fm 8).half 0 = true := by decide +kernel
theorem no_25_26 : allFit (noHold 26) (fm 25).half 0 = true := by decide +kernel
theorem no_27_28 : allFit (noHold 28) (fm 27).half 0 = true := by decide +kernel
theorem no_27_29 : allFit (noHold 29) (fm 27).half 0 = true := by decide +kernel
theorem no_28_29 : allFit (noHold 29) (fm 28).half 0 = true := by decide +kernel
theorem no_at {j k n : Nat} (hj : j < 32) (hn : n < 65536) (h : allFit (noHold k) (fm j).half 0 = true) (hf : fitB (fm j).half n = true) : holdB (fm k).hold (readIns (fm k) n) = false := by
  have hl := half16 j hj
  have := allFit_at (noHold k) (fm j).half 0 n h (by rw [hl]; omega) (fun x hx => by
    rw [hl] at hx ⊢
    exact fit_digit hl hf x hx)
  simpa [noHold] using this
theorem hit_fit {n : Int} {k : Nat} (h : eHit n k = true) : fitB (fm k).half n = true ∧ holdB (fm k).hold (readIns (fm k) n) = true ∧ readP (fm k) n = (readIns (fm k) n, true) := by
  unfold eHit readP at h
  by_cases hf : fitB (fm k).half n = true
  · rw [if_pos hf] at h
    exact ⟨hf, h, by unfold readP; rw [if_pos hf, show holdB (fm k).hold (readIns (fm k) n) = true from h]⟩
  · rw [if_neg hf] at h; cases h
theorem hit_lt {n j k : Nat} (hk : k < 32) (hn : n < 65536) (hjk : j < k) (hj : eHit n j = true) (hk' : eHit n k = true) : False := by
  obtain ⟨f1, _, _⟩ := hit_fit hj
  obtain ⟨f2, h2, _⟩ := hit_fit hk'
  rcases parted hk hjk with h | h
  · exact part_no (half16 j (by omega)) (half16 k hk) h f1 f2
  · have key : holdB (fm k).hold (readIns (fm k) n) = false := by
      simp [spec] at h
      rcases h with (((⟨rfl, rfl⟩ | ⟨rfl, rfl⟩) | ⟨rfl, rfl⟩) | ⟨rfl, rfl⟩) | ⟨rfl, rfl⟩
      · exact no_at (by decide) hn no_8_9 f1
      · exact no_at (by decide) hn no_25_26 f1
      · exact no_at (by decide) hn no_27_28 f1
      · exact no_at (by decide) hn no_27_29 f1
      · exact no_at (by decide) hn no_28_29 f1
    rw [key] at h2; cases h2
/-- a half is of one form at most -/
theorem hit_one {n j k : Nat} (hj : j < 32) (hk : k < 32) (hn : n < 65536) (h1 : eHit n j = true) (h2 : eHit n k = true) : j = k := by
  rcases Nat.lt_trichotomy j k with h | h | h
  · exact (hit_lt hk hn h h1 h2).elim
  · exact h
  · exact (hit_lt hj hn h h2 h1).elim
theorem exp_of_hit {n k : Nat} (hk : k < 32) (hn : n < 65536) (h : eHit n k = true) : expP n = (readIns (fm k) n, 0) := by
  have e := (hit_fit h).2.2
  rw [exp_hit (by omega) hk (fun j hj => ?_) h, e]
  by_cases hc : eHit n j = true
  · have := hit_one (by omega) hk hn hc h; omega
  · simpa using hc
theorem digits_low : ∀ k, k < 32 → ((fm k).half.getD 14 0 = 48 ∨ ((fm k).half.getD 14 0 = 49 ∧ (fm k).half.getD 15 0 = 48)) := by decide
theorem fit_low {k n : Nat} (hk : k < 32) (hf : fitB (fm k).half n = true) : n % 4 ≠ 3 := by
  have d14 := fit_digit (half16 k hk) hf 14 (by decide)
  have d15 := fit_digit (half16 k hk) hf 15 (by decide)
  rcases digits_low k hk with h | ⟨_, h⟩
  · have := d14.1 h; simp at this; omega
  · have := d15.1 h; simp at this; omega
theorem write_bd {k : Nat} (hk : k < 32) (i : Ins) : 0 ≤ writeP (fm k) i ∧ writeP (fm k) i < 65536 := by
  have hf := fok_all k hk
  have hb := wbase_bd (fm k) hf i
  exact wiR_bd (fm k) _ _ _ hb.1 hb.2 (pl_in (fm k).half 105 (fm k).half.length hf.len) _ (Nat.le_refl _)
theorem insB_eq {a b : Ins} (h : insB a b = true) : a = b := by
  obtain ⟨a1, a2, a3, a4, a5⟩ := a
  obtain ⟨b1, b2, b3, b4, b5⟩ := b
  simp [insB] at h
  obtain ⟨rfl, rfl, rfl, rfl, rfl⟩ := h
  rfl
theorem insB_self (a : Ins) : insB a a = true := by simp [insB]
/-- what has a short form is read out of it -/
theorem exp_short {i : Ins} {h : Int} (hs : shortP i = (h, 0)) : expP h = (i, 0) ∧ 0 ≤ h ∧ h ≤ 65535 ∧ h % 4 ≠ 3 ∧ right i = true := by
  unfold shortP at hs
  by_cases hr : right i = true
  · rw [if_pos hr] at hs
    split at hs
    · rename_i k hk
      have hp := List.find?_some hk
      have hk32 : k < 32 := by have := List.mem_of_find?_eq_some hk; simpa using this
      simp only [Prod.mk.injEq, and_true] at hs
      subst hs
      have hb := write_bd hk32 i
      obtain ⟨n, hn⟩ := Int.eq_ofNat_of_zero_le hb.1
      rw [hn] at hb ⊢
      unfold sHit at hp
      rw [hn] at hp
      simp only [Bool.and_eq_true] at hp
      have he : eHit n k = true := hp.2.1
      have hi := insB_eq hp.2.2
      have hx := exp_of_hit hk32 (by omega) he
      have hf := hit_fit he
      rw [hf.2.2] at hi
      simp only at hi
      rw [hx, hi]
      have := fit_low hk32 hf.1
      exact ⟨rfl, by omega, by omega, by omega, hr⟩
    · simp at hs
  · rw [if_neg hr] at hs; simp at hs
/-- what a half stands for has a short form -/
theorem short_exp {n : Int} {y : Ins} (h : expP n = (y, 0)) : ∃ v, shortP y = (v, 0) := by
  unfold expP at h
  by_cases hn : n < 0 ∨ 65535 < n
  · rw [if_pos hn] at h; simp at h
  · rw [if_neg hn] at h
    obtain ⟨m, hm⟩ := Int.eq_ofNat_of_zero_le (show 0 ≤ n by omega)
    subst hm
    split at h
    · rename_i k hk
      have hp : eHit m k = true := List.find?_some hk
      have hk32 : k < 32 := by have := List.mem_of_find?_eq_some hk; simpa using this
      obtain ⟨hf, hh, hr⟩ := hit_fit hp
      rw [hr] at h
      simp only [Prod.mk.injEq, and_true] at h
      have ok := ok_fit hk32 (by omega) hf
      unfold okAt at ok
      rw [hh, h] at ok
      simp at ok
      obtain ⟨hw, hright⟩ := ok
      have hs : sHit y k = true := by
        unfold sHit
        rw [hw, hr, h]
        simp only [insB_self, Bool.and_true]
        rw [← h]
        simp [readIns]
      unfold shortP
      rw [if_pos hright]
      cases hfi : (List.range 32).find? (sHit y) with
      | some j => exact ⟨_, rfl⟩
      | none =>
        have := List.find?_eq_none.1 hfi k (by simp; omega)
        exact absurd hs this
    · simp at h
end Pn
