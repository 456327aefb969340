import Derived.Test.YtbmcofdodfcnnaaGreatDoorGK
import Derived.Test.YtbmcofdodfcnnaaGreatDoorGP
import Derived.Test.YtbmcofdodfcnnaaGreatDoorGW
namespace Go.Proofs.YtbmcofdodfcnnaaGreatDoor
open Go.RowKit
theorem registerRows_is (w : World) :
    Calls Tryz.prog 128 #[] w fun e w' => e = .returned (.agg (Pn.tabC 0 28)) ∧ w' = w.alloc (.cells (Pn.tabC 0 28) 180) :=
  calls_array (n := 29) (s := 0) (y := 29) (Z := Pn.tabZ 28) (m := 28) (e := 100) Tryz.func128 rfl (by kernel_rfl) rfl rfl rfl rfl rfl (by kernel_rfl) (by kernel_rfl) (by kernel_rfl) (by kernel_rfl) (by kernel_rfl)
theorem otherRows_is (w : World) :
    Calls Tryz.prog 129 #[] w fun e w' => e = .returned (.agg (Pn.tabC 28 36)) ∧ w' = w.alloc (.cells (Pn.tabC 28 36) 182) :=
  calls_array (n := 37) (s := 0) (y := 37) (Z := Pn.tabZ 36) (m := 36) (e := 100) Tryz.func129 rfl (by kernel_rfl) rfl rfl rfl rfl rfl (by kernel_rfl) (by kernel_rfl) (by kernel_rfl) (by kernel_rfl) (by kernel_rfl)
end Go.Proofs.YtbmcofdodfcnnaaGreatDoor
namespace Go.Proofs.YtbmcofdodfcnnaaGreatDoor
open Go.RowKit
theorem w64 (n : Int) (h : -9223372036854775808 ≤ n ∧ n ≤ 9223372036854775807) : wrap64 n = n := by unfold wrap64; omega
set_option maxHeartbeats 1000000 in
theorem ibits_is (n low width : Int) (w : World) (l0 : 0 ≤ low) (l1 : low ≤ 40) (w0 : 1 ≤ width) (w1 : width ≤ 32) :
    Calls Tryz.prog 112 #[.int .i64 n, .int .i64 low, .int .i64 width] w fun e w' => e = .returned (.int .i64 (Pn.bitz n (low + width - 1) low)) ∧ ∃ k, w' = w.drewN k := by
  go_enter Tryz.func112, Tryz.ntmps112
  go_wp2_with fail
  go_quiet (fail)
  go_wp2_with fail
  go_ret
  refine ⟨ret_int ?_, nq, rfl⟩
  have p0 := Pn.pow_pos width.toNat
  have p1 := Pn.pow_le62 (show width.toNat ≤ 62 by omega)
  have e1 : wrap64 (2 ^ width.toNat) = 2 ^ width.toNat := w64 _ (by omega)
  rw [e1]
  have e2 : wrap64 (2 ^ width.toNat - 1) = 2 ^ width.toNat - 1 := w64 _ (by omega)
  rw [e2]
  have e3 := Pn.andz_mask (n / 2 ^ low.toNat) width.toNat (by omega)
  unfold Pn.andz at e3
  rw [e3]
  unfold Pn.bitz Pn.bits
  have e4 : (low + width - 1).toNat - low.toNat + 1 = width.toNat := by omega
  rw [e4]
theorem rightRegister_is (n : Int) (t : Bool) (w : World) :
    Calls Tryz.prog 110 #[.int .i64 n, .bool t] w fun e w' => e = .returned (.bool (Pn.register t n)) ∧ w' = w := by
  cases t
  · go_enter Tryz.func110, Tryz.ntmps110
    go_wp2
    go_ret
    exact ⟨rfl, rfl⟩
  · go_enter Tryz.func110, Tryz.ntmps110
    go_wp2
    all_goals
      go_ret
      refine ⟨ret_val ?_, rfl⟩
      unfold Pn.register Pn.between
      first
      | (rw [decide_eq_true (p := 0 ≤ n) (by omega)]; rfl)
      | (rw [decide_eq_false (p := 0 ≤ n) (by omega)]; rfl)
end Go.Proofs.YtbmcofdodfcnnaaGreatDoor
namespace Go.Proofs.YtbmcofdodfcnnaaGreatDoor
open Go.RowKit
def findV (o : Option Nat) : Value := .tuple #[(match o with | some k => Pn.irowV k | none => Pn.irow0V), .bool o.isSome]
theorem index_row (T : TypeId) (n k f : Nat) (w : World) (hk : k < n) (hu : Tryz.prog.underlying T = some (.array n 100)) :
    (Instr.index T (.agg (Pn.tabC f n)) (.int .i64 (k : Int))).run Tryz.prog w = .ok (.agg (Pn.irow (f + k)).toArray) w := by
  have hx := Pn.tab_part f n k hk
  simp [Instr.index, asIntOf, underlying, hu, part, hx, go_sem]
  intro h; omega
def ZR (w wr : World) : Prop := Below w.heap.size w wr ∧ w.heap.size < wr.heap.size ∧ wr.cell? ⟨w.heap.size, 0, none⟩ = some (.int .i64 0) ∧ wr.cell? ⟨w.heap.size, 1, none⟩ = some (.string ⟨#[]⟩) ∧
  wr.cell? ⟨w.heap.size, 2, none⟩ = some (.int .i64 0) ∧ wr.cell? ⟨w.heap.size, 3, none⟩ = some (.int .i64 0) ∧ wr.cell? ⟨w.heap.size, 4, none⟩ = some (.int .i64 0) ∧ wr.cell? ⟨w.heap.size, 5, none⟩ = some (.int .i64 0) ∧ (∀ q, wr.frozen? ⟨w.heap.size, q, none⟩ = false)
theorem ZR.step {w wr wr' : World} (h : ZR w wr) (hB : Below wr.heap.size wr wr') : ZR w wr' := by
  obtain ⟨h0, hz, h1, h2, h3, h4, h5, h6, hf⟩ := h
  exact ⟨h0.trans (hB.mono (by omega)), by have := hB.size; omega, (hB.cell (p := ⟨w.heap.size, 0, none⟩) hz).trans h1, (hB.cell (p := ⟨w.heap.size, 1, none⟩) hz).trans h2, (hB.cell (p := ⟨w.heap.size, 2, none⟩) hz).trans h3,
    (hB.cell (p := ⟨w.heap.size, 3, none⟩) hz).trans h4, (hB.cell (p := ⟨w.heap.size, 4, none⟩) hz).trans h5, (hB.cell (p := ⟨w.heap.size, 5, none⟩) hz).trans h6, fun q => (hB.frozen (p := ⟨w.heap.size, q, none⟩) hz).trans (hf q)⟩
theorem ZR.begin (w : World) (t : TypeId) : ZR w (w.alloc (.cells #[.int .i64 0, .string ⟨#[]⟩, .int .i64 0, .int .i64 0, .int .i64 0, .int .i64 0] t)) :=
  ⟨(Below.refl _ _).alloc (Nat.le_refl _) _, by simp, by go_simp, by go_simp, by go_simp, by go_simp, by go_simp, by go_simp, fun q => by go_simp⟩
def FRel (p : Nat → Bool) (w : World) (lo n : Nat) (i : Value) (wr : World) : Prop :=
  ∃ j : Nat, j ≤ n ∧ i = .int .i64 j ∧ Hid (∀ j', j' < lo + j → p j' = false) ∧ ZR w wr
theorem row_after {w wr w2 : World} (h : ZR w wr) {a b c d e f : Value} {t : Nat} (hB : Below (wr.alloc (.cells #[a, b, c, d, e, f] t)).heap.size (wr.alloc (.cells #[a, b, c, d, e, f] t)) w2) :
    ZR w w2 ∧ w2.cell? ⟨wr.heap.size, 0, none⟩ = some a ∧ w2.cell? ⟨wr.heap.size, 1, none⟩ = some b ∧ w2.cell? ⟨wr.heap.size, 2, none⟩ = some c ∧ w2.cell? ⟨wr.heap.size, 3, none⟩ = some d ∧ w2.cell? ⟨wr.heap.size, 4, none⟩ = some e ∧ w2.cell? ⟨wr.heap.size, 5, none⟩ = some f := by
  refine ⟨(h.step ((Below.refl _ _).alloc (Nat.le_refl _) _)).step hB, (hB.cell (p := ⟨wr.heap.size, 0, none⟩) (by simp)).trans (by go_simp), (hB.cell (p := ⟨wr.heap.size, 1, none⟩) (by simp)).trans (by go_simp), (hB.cell (p := ⟨wr.heap.size, 2, none⟩) (by simp)).trans (by go_simp),
    (hB.cell (p := ⟨wr.heap.size, 3, none⟩) (by simp)).trans (by go_simp), (hB.cell (p := ⟨wr.heap.size, 4, none⟩) (by simp)).trans (by go_simp), (hB.cell (p := ⟨wr.heap.size, 5, none⟩) (by simp)).trans (by go_simp)⟩
theorem below6 {w w3 : World} (h : Below w.heap.size w w3) (a b c d e f : Value) :
    Below w.heap.size w ((((((w3.setCell ⟨w.heap.size, 0, none⟩ a).setCell ⟨w.heap.size, 1, none⟩ b).setCell ⟨w.heap.size, 2, none⟩ c).setCell ⟨w.heap.size, 3, none⟩ d).setCell ⟨w.heap.size, 4, none⟩ e).setCell ⟨w.heap.size, 5, none⟩ f) :=
  (((((h.setCell (Nat.le_refl _) _).setCell (Nat.le_refl _) _).setCell (Nat.le_refl _) _).setCell (Nat.le_refl _) _).setCell (Nat.le_refl _) _).setCell (Nat.le_refl _) _
theorem find_hit {p : Nat → Bool} {k : Nat} (hk : k < 64) (h : ∀ j, j < k → p j = false) (hp : p k = true) : findV ((List.range 64).find? p) = findV (some k) := by rw [Pn.find_range p 64 k hk h hp]
theorem find_no {p : Nat → Bool} (h : ∀ j, j < 64 → p j = false) : findV ((List.range 64).find? p) = findV none := by rw [Pn.find_none p 64 h]
theorem no_next {p : Nat → Bool} {k : Nat} (h : ∀ j, j < k → p j = false) (hp : p k = false) : ∀ j, j < k + 1 → p j = false := fun j hj => by
  by_cases e : j = k
  · rw [e]; exact hp
  · exact h j (by omega)
set_option maxRecDepth 100000 in
set_option maxHeartbeats 4000000 in
theorem find_is (F : FuncId) (cap : Value) (p : Nat → Bool) (w : World) (hcf : ∀ args w', (callFunc F args).run Tryz.prog w' = .ok (.enter F args) w')
    (hc : ∀ k, k < 64 → ∀ w1, Below w.heap.size w w1 → Calls Tryz.prog F #[.agg (Pn.irow k).toArray, cap] w1 fun e w' => e = .returned (.bool (p k)) ∧ Below w1.heap.size w1 w') :
    Calls Tryz.prog 67 #[.func (.func F) #[] #[cap]] w fun e w' => e = .returned (findV ((List.range 64).find? p)) ∧ Below w.heap.size w w' := by
  have HC := (show Hid _ from hc)
  clear hc
  go_enter Tryz.func67, Tryz.ntmps67
  go_wp2_with fail
  refine (registerRows_is _).mono ?_
  rintro e w1 ⟨rfl, rfl⟩
  have hix0 : Hid (∀ (k : Nat) (w' : World), k < 28 → (Instr.index 180 (.agg (Pn.tabC 0 28)) (.int .i64 (k : Int))).run Tryz.prog w' = .ok (.agg (Pn.irow k).toArray) w') := fun k w' hk => by
    have := index_row 180 28 k 0 w' hk (by kernel_rfl)
    rw [Nat.zero_add] at this
    exact this
  generalize Pn.tabC 0 28 = C1 at hix0 ⊢
  go_wp2_with fail
  go_loopw [9] (fun i wr => FRel p w 0 28 i wr) (fun i _ => 28 - (intOf i).toNat)
  case atStart => exact ⟨0, by omega, rfl, fun _ h => by omega, (ZR.begin w _).step ((Below.refl _ _).alloc (Nat.le_refl _) _)⟩
  case round =>
    obtain ⟨k, hk, rfl, hno, hZ⟩ := hrel
    have HZ := (show Hid _ from hZ)
    obtain ⟨_, hz, y0, y1, y2, y3, y4, y5, yf⟩ := hZ
    by_cases hlt : k < 28
    · have hlt2 : (k : Int) < 28 := by omega
      have hix : ∀ w', (Instr.index 180 (.agg C1) (.int .i64 (k : Int))).run Tryz.prog w' = .ok (.agg #[.int .i64 ((0 + k : Nat) + 1), .string ⟨(Pn.row (0 + k)).name.toArray⟩, .int .i64 (Pn.kdI (Pn.row (0 + k)).kind), .int .i64 (Pn.row (0 + k)).opc, .int .i64 (Pn.row (0 + k)).f, .int .i64 (Pn.row (0 + k)).g]) w' := fun w' => by have := hix0.out k w' hlt; rw [Nat.zero_add]; exact this
      generalize hKK : 0 + k = K at hix
      have hK64 : K < 64 := by omega
      have HKK := (show Hid _ from hKK)
      have HNO' : Hid (∀ j, j < K → p j = false) := fun j hj => hno.out j (by omega)
      clear hKK y0 y1 y2 y3 y4 y5 yf
      go_wp2_with fail
      refine (HC.out K hK64 _ (HZ.out.1.alloc (by have := HZ.out.2.1; omega) _)).mono ?_
      rintro e w2 ⟨rfl, hB2⟩
      obtain ⟨hZ2, x0, x1, x2, x3, x4, x5⟩ := row_after HZ.out hB2
      have HZ2 := (show Hid _ from hZ2)
      obtain ⟨_, hz2, y0, y1, y2, y3, y4, y5, yf⟩ := hZ2
      have hzr : wr.heap.size < w2.heap.size := by have := hB2.size; simp at this; omega
      have hne : (w.heap.size == wr.heap.size) = false := by simp; omega
      have hne2 : ¬ w.heap.size = wr.heap.size := by omega
      clear hB2 hix
      by_cases hp : p K = true
      · rw [hp]
        have HD := (show Hid _ from find_hit hK64 HNO'.out hp)
        clear hno hp
        go_wp2_with fail
        refine bodyPost_ret (v := findV (some K)) (by simp [results, Tryz.results67, go_sem, y0, y1, y2, y3, y4, y5, findV, Pn.irowV, Pn.irow]) rfl ⟨by rw [HD.out], below6 HZ2.out.1 _ _ _ _ _ _⟩
      · have hp' : p K = false := by simpa using hp
        rw [hp']
        have HN2 := (show Hid _ from no_next HNO'.out hp')
        clear hp hp' hno
        go_wp2_with fail
        go_roundw
        case rel => exact ⟨k + 1, by omega, by go_num, fun j hj => HN2.out j (by have := HKK.out; omega), HZ2.out⟩
        case measure => simp [intOf]; omega
    · have hk28 : k = 28 := by omega
      subst hk28
      have HNO := (show Hid (∀ j, j < 28 → p j = false) from fun j hj => hno.out j (by omega))
      have HZ1 := HZ
      clear hno HZ
      go_wp2_with fail
      refine (otherRows_is _).mono ?_
      rintro e w1 ⟨rfl, rfl⟩
      have hix1 : Hid (∀ (k : Nat) (w' : World), k < 36 → (Instr.index 182 (.agg (Pn.tabC 28 36)) (.int .i64 (k : Int))).run Tryz.prog w' = .ok (.agg (Pn.irow (28 + k)).toArray) w') := fun k w' hk => 
        index_row 182 36 k 28 w' hk (by kernel_rfl)
      generalize Pn.tabC 28 36 = C2 at hix1 ⊢
      go_wp2_with fail
      go_loopw [18] (fun i wr => FRel p w 28 36 i wr) (fun i _ => 36 - (intOf i).toNat)
      case atStart => exact ⟨0, by omega, rfl, fun j h => HNO.out j (by omega), ZR.step HZ1.out ((Below.refl _ _).alloc (Nat.le_refl _) _)⟩
      case round =>
        obtain ⟨k, hk, rfl, hno, hZ⟩ := hrel
        have HZ := (show Hid _ from hZ)
        obtain ⟨_, hz, y0, y1, y2, y3, y4, y5, yf⟩ := hZ
        by_cases hlt : k < 36
        · have hlt2 : (k : Int) < 36 := by omega
          have hix : ∀ w', (Instr.index 182 (.agg C2) (.int .i64 (k : Int))).run Tryz.prog w' = .ok (.agg #[.int .i64 ((28 + k : Nat) + 1), .string ⟨(Pn.row (28 + k)).name.toArray⟩, .int .i64 (Pn.kdI (Pn.row (28 + k)).kind), .int .i64 (Pn.row (28 + k)).opc, .int .i64 (Pn.row (28 + k)).f, .int .i64 (Pn.row (28 + k)).g]) w' := fun w' => hix1.out k w' hlt
          generalize hKK : 28 + k = K at hix
          have hK64 : K < 64 := by omega
          have HKK := (show Hid _ from hKK)
          have HNO' : Hid (∀ j, j < K → p j = false) := fun j hj => hno.out j (by omega)
          clear hKK y0 y1 y2 y3 y4 y5 yf
          go_wp2_with fail
          refine (HC.out K hK64 _ (HZ.out.1.alloc (by have := HZ.out.2.1; omega) _)).mono ?_
          rintro e w2 ⟨rfl, hB2⟩
          obtain ⟨hZ2, x0, x1, x2, x3, x4, x5⟩ := row_after HZ.out hB2
          have HZ2 := (show Hid _ from hZ2)
          obtain ⟨_, hz2, y0, y1, y2, y3, y4, y5, yf⟩ := hZ2
          have hzr : wr.heap.size < w2.heap.size := by have := hB2.size; simp at this; omega
          have hne : (w.heap.size == wr.heap.size) = false := by simp; omega
          have hne2 : ¬ w.heap.size = wr.heap.size := by omega
          clear hB2 hix
          by_cases hp : p K = true
          · rw [hp]
            have HD := (show Hid _ from find_hit hK64 HNO'.out hp)
            clear hno hp
            go_wp2_with fail
            refine bodyPost_ret (v := findV (some K)) (by simp [results, Tryz.results67, go_sem, y0, y1, y2, y3, y4, y5, findV, Pn.irowV, Pn.irow]) rfl ⟨by rw [HD.out], below6 HZ2.out.1 _ _ _ _ _ _⟩
          · have hp' : p K = false := by simpa using hp
            rw [hp']
            have HN2 := (show Hid _ from no_next HNO'.out hp')
            clear hp hp' hno
            go_wp2_with fail
            go_roundw
            case rel => exact ⟨k + 1, by omega, by go_num, fun j hj => HN2.out j (by have := HKK.out; omega), HZ2.out⟩
            case measure => simp [intOf]; omega
        · have hk36 : k = 36 := by omega
          subst hk36
          have HD := (show Hid _ from find_no (fun j hj => hno.out j (by omega)))
          clear hno
          go_wp2_with fail
          refine bodyPost_ret (v := findV none) (by simp [results, Tryz.results67, go_sem, y0, y1, y2, y3, y4, y5, findV, Pn.irow0V, Pn.irow0]) rfl ⟨by rw [HD.out], below6 HZ.out.1 _ _ _ _ _ _⟩
end Go.Proofs.YtbmcofdodfcnnaaGreatDoor
namespace Go.Proofs.YtbmcofdodfcnnaaGreatDoor
open Go.RowKit
theorem num1_is (k b : Nat) (op : Int) (w : World) (hb : b < w.heap.size) (hc : w.cell? ⟨b, 0, none⟩ = some (.int .i64 op)) :
    Calls Tryz.prog 180 #[.agg (Pn.irow k).toArray, .pointer (some ⟨b, 0, none⟩)] w fun e w' => e = .returned (.bool (Pn.byOp op k)) ∧ Below w.heap.size w w' := by
  unfold Pn.irow
  go_enter Tryz.func180, Tryz.ntmps180
  go_wp2_with fail
  go_ret
  exact ⟨rfl, (Below.refl _ _).alloc (Nat.le_refl _) _⟩
theorem named1_is (k b : Nat) (nm : ByteArray) (w : World) (hb : b < w.heap.size) (hc : w.cell? ⟨b, 0, none⟩ = some (.string nm)) :
    Calls Tryz.prog 188 #[.agg (Pn.irow k).toArray, .pointer (some ⟨b, 0, none⟩)] w fun e w' => e = .returned (.bool (Pn.byName nm k)) ∧ Below w.heap.size w w' := by
  unfold Pn.irow
  go_enter Tryz.func188, Tryz.ntmps188
  go_wp2_with fail
  go_ret
  exact ⟨rfl, (Below.refl _ _).alloc (Nat.le_refl _) _⟩
theorem below6' {w w3 : World} {b : Nat} (h : Below w.heap.size w w3) (x0 x1 x2 x3 x4 x5 : Value) :
    Below w.heap.size w ((((((w3.setCell ⟨w.heap.size + b, 0, none⟩ x0).setCell ⟨w.heap.size + b, 1, none⟩ x1).setCell ⟨w.heap.size + b, 2, none⟩ x2).setCell ⟨w.heap.size + b, 3, none⟩ x3).setCell ⟨w.heap.size + b, 4, none⟩ x4).setCell ⟨w.heap.size + b, 5, none⟩ x5) :=
  (((((h.setCell (by simp) _).setCell (by simp) _).setCell (by simp) _).setCell (by simp) _).setCell (by simp) _).setCell (by simp) _
set_option maxHeartbeats 1000000 in
theorem numbered_is (op : Int) (w : World) :
    Calls Tryz.prog 109 #[.int .i64 op] w fun e w' => e = .returned (findV ((List.range 64).find? (Pn.byOp op))) ∧ Below w.heap.size w w' := by
  go_enter Tryz.func109, Tryz.ntmps109
  go_wp2_with fail
  refine (find_is 180 _ (Pn.byOp op) _ Tryz.call180 (fun k _ w1 hB => num1_is k w.heap.size op w1 (by have := hB.size; simp at this; omega) ((hB.cell (p := ⟨w.heap.size, 0, none⟩) (by simp; omega)).trans (by go_simp)))).mono ?_
  rintro e w2 ⟨rfl, hB2⟩
  have y0 : w2.cell? ⟨w.heap.size + 1, 0, none⟩ = some (.int .i64 0) := (hB2.cell (p := ⟨w.heap.size + 1, 0, none⟩) (by simp)).trans (by go_simp)
  have y1 : w2.cell? ⟨w.heap.size + 1, 1, none⟩ = some (.string ⟨#[]⟩) := (hB2.cell (p := ⟨w.heap.size + 1, 1, none⟩) (by simp)).trans (by go_simp)
  have y2 : w2.cell? ⟨w.heap.size + 1, 2, none⟩ = some (.int .i64 0) := (hB2.cell (p := ⟨w.heap.size + 1, 2, none⟩) (by simp)).trans (by go_simp)
  have y3 : w2.cell? ⟨w.heap.size + 1, 3, none⟩ = some (.int .i64 0) := (hB2.cell (p := ⟨w.heap.size + 1, 3, none⟩) (by simp)).trans (by go_simp)
  have y4 : w2.cell? ⟨w.heap.size + 1, 4, none⟩ = some (.int .i64 0) := (hB2.cell (p := ⟨w.heap.size + 1, 4, none⟩) (by simp)).trans (by go_simp)
  have y5 : w2.cell? ⟨w.heap.size + 1, 5, none⟩ = some (.int .i64 0) := (hB2.cell (p := ⟨w.heap.size + 1, 5, none⟩) (by simp)).trans (by go_simp)
  have yf : ∀ q, w2.frozen? ⟨w.heap.size + 1, q, none⟩ = false := fun q => (hB2.frozen (p := ⟨w.heap.size + 1, q, none⟩) (by simp)).trans (by go_simp)
  have HB2 : Hid (Below w.heap.size w w2) := (((Below.refl _ _).alloc (Nat.le_refl _) _).alloc (by simp) _).trans (hB2.mono (by simp; omega))
  clear hB2
  generalize hO : (List.range 64).find? (Pn.byOp op) = o
  have HO := (show Hid _ from hO)
  clear hO
  cases o with
  | none =>
    unfold findV Pn.irow0V Pn.irow0
    go_wp2_with fail
    refine bodyPost_ret (v := findV none) (by simp [results, Tryz.results109, go_sem, y0, y1, y2, y3, y4, y5, findV, Pn.irow0V, Pn.irow0]) rfl ⟨by rw [HO.out], below6' HB2.out _ _ _ _ _ _⟩
  | some k =>
    unfold findV Pn.irowV Pn.irow
    go_wp2_with fail
    refine bodyPost_ret (v := findV (some k)) (by simp [results, Tryz.results109, go_sem, y0, y1, y2, y3, y4, y5, findV, Pn.irowV, Pn.irow]) rfl ⟨by rw [HO.out], below6' HB2.out _ _ _ _ _ _⟩
set_option maxHeartbeats 1000000 in
theorem Named_is (op : ByteArray) (w : World) :
    Calls Tryz.prog 135 #[.string op] w fun e w' => e = .returned (findV ((List.range 64).find? (Pn.byName op))) ∧ Below w.heap.size w w' := by
  go_enter Tryz.func135, Tryz.ntmps135
  go_wp2_with fail
  refine (find_is 188 _ (Pn.byName op) _ Tryz.call188 (fun k _ w1 hB => named1_is k w.heap.size op w1 (by have := hB.size; simp at this; omega) ((hB.cell (p := ⟨w.heap.size, 0, none⟩) (by simp; omega)).trans (by go_simp)))).mono ?_
  rintro e w2 ⟨rfl, hB2⟩
  have y0 : w2.cell? ⟨w.heap.size + 1, 0, none⟩ = some (.int .i64 0) := (hB2.cell (p := ⟨w.heap.size + 1, 0, none⟩) (by simp)).trans (by go_simp)
  have y1 : w2.cell? ⟨w.heap.size + 1, 1, none⟩ = some (.string ⟨#[]⟩) := (hB2.cell (p := ⟨w.heap.size + 1, 1, none⟩) (by simp)).trans (by go_simp)
  have y2 : w2.cell? ⟨w.heap.size + 1, 2, none⟩ = some (.int .i64 0) := (hB2.cell (p := ⟨w.heap.size + 1, 2, none⟩) (by simp)).trans (by go_simp)
  have y3 : w2.cell? ⟨w.heap.size + 1, 3, none⟩ = some (.int .i64 0) := (hB2.cell (p := ⟨w.heap.size + 1, 3, none⟩) (by simp)).trans (by go_simp)
  have y4 : w2.cell? ⟨w.heap.size + 1, 4, none⟩ = some (.int .i64 0) := (hB2.cell (p := ⟨w.heap.size + 1, 4, none⟩) (by simp)).trans (by go_simp)
  have y5 : w2.cell? ⟨w.heap.size + 1, 5, none⟩ = some (.int .i64 0) := (hB2.cell (p := ⟨w.heap.size + 1, 5, none⟩) (by simp)).trans (by go_simp)
  have yf : ∀ q, w2.frozen? ⟨w.heap.size + 1, q, none⟩ = false := fun q => (hB2.frozen (p := ⟨w.heap.size + 1, q, none⟩) (by simp)).trans (by go_simp)
  have HB2 : Hid (Below w.heap.size w w2) := (((Below.refl _ _).alloc (Nat.le_refl _) _).alloc (by simp) _).trans (hB2.mono (by simp; omega))
  clear hB2
  generalize hO : (List.range 64).find? (Pn.byName op) = o
  have HO := (show Hid _ from hO)
  clear hO
  cases o with
  | none =>
    unfold findV Pn.irow0V Pn.irow0
    go_wp2_with fail
    refine bodyPost_ret (v := findV none) (by simp [results, Tryz.results135, go_sem, y0, y1, y2, y3, y4, y5, findV, Pn.irow0V, Pn.irow0]) rfl ⟨by rw [HO.out], below6' HB2.out _ _ _ _ _ _⟩
  | some k =>
    unfold findV Pn.irowV Pn.irow
    go_wp2_with fail
    refine bodyPost_ret (v := findV (some k)) (by simp [results, Tryz.results135, go_sem, y0, y1, y2, y3, y4, y5, findV, Pn.irowV, Pn.irow]) rfl ⟨by rw [HO.out], below6' HB2.out _ _ _ _ _ _⟩
end Go.Proofs.YtbmcofdodfcnnaaGreatDoor
namespace Go.Proofs.YtbmcofdodfcnnaaGreatDoor
open Go.RowKit
set_option maxRecDepth 100000 in
set_option maxHeartbeats 2000000 in
theorem layoutOf_is (kd : Nat) (hk : Pn.kindsOk kd) (w : World) :
    Calls Tryz.prog 59 #[.int .i64 (Pn.kdI kd)] w fun e w' => ∃ sl, e = .returned (.agg (Pn.layCells kd sl).toArray) ∧ Pn.PiecesAt w.heap.size (Pn.pieces kd) sl w' ∧ Below w.heap.size w w' := by
  rcases hk with rfl | rfl | rfl | rfl | rfl | rfl | rfl | rfl | rfl | rfl
  · have : Pn.kdI 82 = 0 := rfl
    rw [this]
    clear this
    go_enter Tryz.func59, Tryz.ntmps59
    go_wp2_with fail
    refine bodyPost_ret (v := .agg (Pn.layCells 82 (.slice none 0 0)).toArray) (by simp [results, Tryz.results59, go_sem, Pn.layCells, Pn.has, Pn.least, Pn.most, Pn.evenK, Pn.gpos, Pn.fixm]) rfl ⟨_, rfl, Pn.pieces_nil _ _, (Below.refl _ _).alloc (Nat.le_refl _) _⟩
  · have : Pn.kdI 73 = 1 := rfl
    rw [this]
    clear this
    go_enter Tryz.func59, Tryz.ntmps59
    go_wp2_with fail
    refine bodyPost_ret (v := .agg (Pn.layCells 73 (.slice (some ⟨w.heap.size + 1, 0, none⟩) 1 1)).toArray) (by simp [results, Tryz.results59, go_sem, Pn.layCells, Pn.has, Pn.least, Pn.most, Pn.evenK, Pn.gpos, Pn.fixm]) rfl ⟨_, rfl, by have := Pn.pieces_new w.heap.size (Pn.pieces 73) (w.alloc (.cells (Pn.layCells 73 (.slice (some ⟨w.heap.size + 1, 0, none⟩) 1 1)).toArray 105)) 175 1 (Nat.le_refl _) (by simp); rw [World.size_alloc] at this; exact this, ((Below.refl _ _).alloc (Nat.le_refl _) _).alloc (by simp) _⟩
  · have : Pn.kdI 76 = 4 := rfl
    rw [this]
    clear this
    go_enter Tryz.func59, Tryz.ntmps59
    go_wp2_with fail
    refine bodyPost_ret (v := .agg (Pn.layCells 76 (.slice (some ⟨w.heap.size + 1, 0, none⟩) 1 1)).toArray) (by simp [results, Tryz.results59, go_sem, Pn.layCells, Pn.has, Pn.least, Pn.most, Pn.evenK, Pn.gpos, Pn.fixm]) rfl ⟨_, rfl, by have := Pn.pieces_new w.heap.size (Pn.pieces 76) (w.alloc (.cells (Pn.layCells 76 (.slice (some ⟨w.heap.size + 1, 0, none⟩) 1 1)).toArray 105)) 175 1 (Nat.le_refl _) (by simp); rw [World.size_alloc] at this; exact this, ((Below.refl _ _).alloc (Nat.le_refl _) _).alloc (by simp) _⟩
  · have : Pn.kdI 72 = 2 := rfl
    rw [this]
    clear this
    go_enter Tryz.func59, Tryz.ntmps59
    go_wp2_with fail
    refine bodyPost_ret (v := .agg (Pn.layCells 72 (.slice (some ⟨w.heap.size + 1, 0, none⟩) 1 1)).toArray) (by simp [results, Tryz.results59, go_sem, Pn.layCells, Pn.has, Pn.least, Pn.most, Pn.evenK, Pn.gpos, Pn.fixm]) rfl ⟨_, rfl, by have := Pn.pieces_new w.heap.size (Pn.pieces 72) (w.alloc (.cells (Pn.layCells 72 (.slice (some ⟨w.heap.size + 1, 0, none⟩) 1 1)).toArray 105)) 175 1 (Nat.le_refl _) (by simp); rw [World.size_alloc] at this; exact this, ((Below.refl _ _).alloc (Nat.le_refl _) _).alloc (by simp) _⟩
  · have : Pn.kdI 87 = 3 := rfl
    rw [this]
    clear this
    go_enter Tryz.func59, Tryz.ntmps59
    go_wp2_with fail
    refine bodyPost_ret (v := .agg (Pn.layCells 87 (.slice (some ⟨w.heap.size + 1, 0, none⟩) 1 1)).toArray) (by simp [results, Tryz.results59, go_sem, Pn.layCells, Pn.has, Pn.least, Pn.most, Pn.evenK, Pn.gpos, Pn.fixm]) rfl ⟨_, rfl, by have := Pn.pieces_new w.heap.size (Pn.pieces 87) (w.alloc (.cells (Pn.layCells 87 (.slice (some ⟨w.heap.size + 1, 0, none⟩) 1 1)).toArray 105)) 175 1 (Nat.le_refl _) (by simp); rw [World.size_alloc] at this; exact this, ((Below.refl _ _).alloc (Nat.le_refl _) _).alloc (by simp) _⟩
  · have : Pn.kdI 83 = 5 := rfl
    rw [this]
    clear this
    go_enter Tryz.func59, Tryz.ntmps59
    go_wp2_with fail
    refine bodyPost_ret (v := .agg (Pn.layCells 83 (.slice (some ⟨w.heap.size + 1, 0, none⟩) 2 2)).toArray) (by simp [results, Tryz.results59, go_sem, Pn.layCells, Pn.has, Pn.least, Pn.most, Pn.evenK, Pn.gpos, Pn.fixm]) rfl ⟨_, rfl, by have := Pn.pieces_new w.heap.size (Pn.pieces 83) (w.alloc (.cells (Pn.layCells 83 (.slice (some ⟨w.heap.size + 1, 0, none⟩) 2 2)).toArray 105)) 175 2 (Nat.le_refl _) (by simp); rw [World.size_alloc] at this; exact this, ((Below.refl _ _).alloc (Nat.le_refl _) _).alloc (by simp) _⟩
  · have : Pn.kdI 66 = 6 := rfl
    rw [this]
    clear this
    go_enter Tryz.func59, Tryz.ntmps59
    go_wp2_with fail
    refine bodyPost_ret (v := .agg (Pn.layCells 66 (.slice (some ⟨w.heap.size + 1, 0, none⟩) 4 4)).toArray) (by simp [results, Tryz.results59, go_sem, Pn.layCells, Pn.has, Pn.least, Pn.most, Pn.evenK, Pn.gpos, Pn.fixm]) rfl ⟨_, rfl, by have := Pn.pieces_new w.heap.size (Pn.pieces 66) (w.alloc (.cells (Pn.layCells 66 (.slice (some ⟨w.heap.size + 1, 0, none⟩) 4 4)).toArray 105)) 175 4 (Nat.le_refl _) (by simp); rw [World.size_alloc] at this; exact this, ((Below.refl _ _).alloc (Nat.le_refl _) _).alloc (by simp) _⟩
  · have : Pn.kdI 85 = 7 := rfl
    rw [this]
    clear this
    go_enter Tryz.func59, Tryz.ntmps59
    go_wp2_with fail
    refine bodyPost_ret (v := .agg (Pn.layCells 85 (.slice (some ⟨w.heap.size + 1, 0, none⟩) 1 1)).toArray) (by simp [results, Tryz.results59, go_sem, Pn.layCells, Pn.has, Pn.least, Pn.most, Pn.evenK, Pn.gpos, Pn.fixm]) rfl ⟨_, rfl, by have := Pn.pieces_new w.heap.size (Pn.pieces 85) (w.alloc (.cells (Pn.layCells 85 (.slice (some ⟨w.heap.size + 1, 0, none⟩) 1 1)).toArray 105)) 175 1 (Nat.le_refl _) (by simp); rw [World.size_alloc] at this; exact this, ((Below.refl _ _).alloc (Nat.le_refl _) _).alloc (by simp) _⟩
  · have : Pn.kdI 74 = 8 := rfl
    rw [this]
    clear this
    go_enter Tryz.func59, Tryz.ntmps59
    go_wp2_with fail
    refine bodyPost_ret (v := .agg (Pn.layCells 74 (.slice (some ⟨w.heap.size + 1, 0, none⟩) 4 4)).toArray) (by simp [results, Tryz.results59, go_sem, Pn.layCells, Pn.has, Pn.least, Pn.most, Pn.evenK, Pn.gpos, Pn.fixm]) rfl ⟨_, rfl, by have := Pn.pieces_new w.heap.size (Pn.pieces 74) (w.alloc (.cells (Pn.layCells 74 (.slice (some ⟨w.heap.size + 1, 0, none⟩) 4 4)).toArray 105)) 175 4 (Nat.le_refl _) (by simp); rw [World.size_alloc] at this; exact this, ((Below.refl _ _).alloc (Nat.le_refl _) _).alloc (by simp) _⟩
  · have : Pn.kdI 78 = 9 := rfl
    rw [this]
    clear this
    go_enter Tryz.func59, Tryz.ntmps59
    go_wp2_with fail
    refine bodyPost_ret (v := .agg (Pn.layCells 78 (.slice none 0 0)).toArray) (by simp [results, Tryz.results59, go_sem, Pn.layCells, Pn.has, Pn.least, Pn.most, Pn.evenK, Pn.gpos, Pn.fixm]) rfl ⟨_, rfl, Pn.pieces_nil _ _, (Below.refl _ _).alloc (Nat.le_refl _) _⟩
end Go.Proofs.YtbmcofdodfcnnaaGreatDoor
namespace Go.Proofs.YtbmcofdodfcnnaaGreatDoor
open Go.RowKit
set_option maxHeartbeats 1000000 in
theorem takesImm_any (a b c ev : Bool) (lo hi g fx n : Int) (ao : Option Addr) (ln cp : Nat) (w : World) :
    Calls Tryz.prog 111 #[.agg #[.bool a, .bool b, .bool c, .int .i64 lo, .int .i64 hi, .bool ev, .slice ao ln cp, .int .i64 g, .int .i64 fx], .int .i64 n] w fun e w' =>
      e = .returned (.bool (Pn.tk ev lo hi n)) ∧ Below w.heap.size w w' := by
  cases ev
  all_goals
    go_enter Tryz.func111, Tryz.ntmps111
    go_wp2_with fail
    all_goals
      go_ret
      refine ⟨ret_val (congrArg Value.bool ?_), (Below.refl _ _).alloc (Nat.le_refl _) _⟩
      unfold Pn.tk
      first
      | (rw [decide_eq_true (p := lo ≤ n) (by omega)]; simp [*])
      | (rw [decide_eq_false (p := lo ≤ n) (by omega)]; simp)
      | simp [*]
set_option maxHeartbeats 1000000 in
theorem fixedPart_any (op kd opc f g lo hi gat fx : Int) (nm : ByteArray) (a b c ev : Bool) (ao : Option Addr) (ln cp : Nat) (w : World) (g0 : 0 ≤ gat) (g1 : gat ≤ 40) (f0 : 0 ≤ f) (f1 : f ≤ 7) (q0 : 0 ≤ g) (q1 : g ≤ 127) :
    Calls Tryz.prog 60 #[.agg #[.int .i64 op, .string nm, .int .i64 kd, .int .i64 opc, .int .i64 f, .int .i64 g], .agg #[.bool a, .bool b, .bool c, .int .i64 lo, .int .i64 hi, .bool ev, .slice ao ln cp, .int .i64 gat, .int .i64 fx]] w fun e w' =>
      e = .returned (.int .i64 (Pn.fixw opc f g (2 ^ gat.toNat))) ∧ Below w.heap.size w w' := by
  go_enter Tryz.func60, Tryz.ntmps60
  go_wp2_with fail
  go_quiet (fail)
  go_wp2_with fail
  go_ret
  refine ⟨ret_int ?_, below_drewN (((Below.refl _ _).alloc (Nat.le_refl _) _).alloc (by simp) _) _⟩
  have p0 := Pn.pow_pos gat.toNat
  have p1 : (2:Int) ^ gat.toNat ≤ 2 ^ 40 := Pn.pow_mono (by omega)
  have m0 : 0 ≤ g * 2 ^ gat.toNat := Int.mul_nonneg q0 (by omega)
  have m1 : g * 2 ^ gat.toNat ≤ 127 * 2 ^ 40 := Int.mul_le_mul q1 p1 (by omega) (by decide)
  rw [w64 (g * 2 ^ gat.toNat) (by omega)]
  rfl
end Go.Proofs.YtbmcofdodfcnnaaGreatDoor
