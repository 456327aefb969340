import Derived.Test.YtbmcofdodfcnnaaGreatDoorGUM
import Derived.Test.YtbmcofdodfcnnaaGreatDoorGQB
namespace Pn
def rgT (regs : List Int) : Nat → List UInt8
  | 0 => []
  | n + 1 => rgT regs n ++ (Go.Lib.itoa (regs.getD n 0) ++ [32])
def mmT (mem : List Int) : Nat → List UInt8
  | 0 => []
  | n + 1 => mmT mem n ++ (if mem.getD (2048 + n) 0 = 0 then [] else Go.Lib.itoa ((2048 + n : Nat) : Int) ++ [58, 32] ++ Go.Lib.itoa (mem.getD (2048 + n) 0) ++ [32])
def stTx (mem regs : List Int) : List UInt8 := rgT regs 32 ++ mmT mem 2048
end Pn
namespace Go.Proofs.YtbmcofdodfcnnaaGreatDoor
open Go.RowKit
theorem ppeek_up (b a : Nat) (w : World) {T : TypeId} {mem regs : List Int} {pc : Int} (h : IsM T b mem regs pc w) (ha : a < 4096) :
    Calls Tryz.prog 32 #[.pointer (some ⟨b, 0, none⟩), .int .i64 a] w fun e w' => e = .returned (.tuple #[.int .i64 (mem.getD a 0), .int .i64 0]) ∧ w' = w := by
  have hh : holdsB (a : Int) 1 = true := by simp [holdsB]; omega
  go_enter Tryz.func32, Tryz.ntmps32
  go_wp2_with (first
    | (go_at_call 46; refine (inner_is _ _).mono ?_; rintro e w' ⟨rfl, rfl⟩)
    | (go_at_call 51; refine (Peek_is b a _ h).mono ?_; rw [hh]; rintro e w' ⟨rfl, rfl⟩))
  go_ret2
  exact ⟨rfl, rfl⟩
theorem mem_inB {T : TypeId} {b : Nat} {mem regs : List Int} {pc : Int} {w : World} (h : IsM T b mem regs pc w) (a : Nat) : 0 ≤ mem.getD a 0 ∧ mem.getD a 0 < 256 := by
  by_cases ha : a < mem.length
  · have e : mem.getD a 0 = mem[a] := by simp [List.getD, ha]
    rw [e]
    exact h.byte _ (List.getElem_mem ha)
  · have e : mem.getD a 0 = 0 := by simp [List.getD, Nat.le_of_not_lt ha]
    rw [e]
    decide
set_option maxRecDepth 20000 in
set_option maxHeartbeats 2000000 in
theorem state_is (b : Nat) (w : World) {T : TypeId} {mem regs : List Int} {pc : Int} (h : IsM T b mem regs pc w) (hr : ∀ k, inB (regs.getD k 0)) (hE : Env w) :
    Calls Tryz.prog 28 #[.pointer (some ⟨b, 0, none⟩)] w fun e w' => ∃ s : ByteArray, e = .returned (.string s) ∧ s.data.toList = Pn.stTx mem regs ∧ Below w.heap.size w w' := by
  have HE := hid hE
  have HM := hid h
  have HR := hid hr
  clear hE h hr
  go_enter Tryz.func28, Tryz.ntmps28
  go_wp2_with fail
  go_loopw [3, 4] (fun s r wr => ∃ (k : Nat) (t : ByteArray), s = .string t ∧ r = .int .i64 k ∧ k ≤ 32 ∧ t.size ≤ 22 * k ∧ Hid (t.data.toList = Pn.rgT regs k) ∧ Hid (Below w.heap.size w wr)) (fun _ r _ => 32 - (intOf r).toNat)
  case atStart => exact ⟨0, _, rfl, rfl, by omega, by simp [ByteArray.size], hid rfl, hid (Below.refl _ _)⟩
  case round =>
    obtain ⟨k, t, rfl, rfl, hk, hsz, HT, HB⟩ := hrel
    by_cases hlt : k < 32
    · have hki : (k : Int) < 32 := by omega
      have HG := hid (pget_in b k wr (HM.out.next HB.out) hlt)
      have hx := HR.out k
      have HTN : Hid (Pn.rgT regs (k + 1) = Pn.rgT regs k ++ (Lib.itoa (regs.getD k 0) ++ [32])) := hid rfl
      generalize regs.getD k 0 = x at *
      go_wp2_with fail
      refine HG.out.mono ?_
      rintro e w1 ⟨rfl, rfl⟩
      go_wp2_with fail
      refine (itoa_is x _ hx.1 (by have := hx.2; omega) (HE.out.below HB.out HE.out.1)).mono ?_
      rintro e w2 ⟨q, rfl, hq, HQ, hB2⟩
      have HB2 := hid (HB.out.trans (hB2.mono HB.out.size))
      have u1 : ¬ (9223372036854775807 : Int) < t.size + q.size := by omega
      have u2 : ¬ 9223372036854775807 < t.size + q.size := by omega
      have u3 : ¬ (9223372036854775807 : Int) < t.size + q.size + 1 := by omega
      have u4 : ¬ 9223372036854775807 < t.size + q.size + 1 := by omega
      have wk : IntKind.i64.wrap ((k : Int) + 1) = (k : Int) + 1 := IntWalk.i64_in _ (by omega)
      clear hB2 HG
      go_wp2_with fail
      go_roundw
      case rel =>
        refine ⟨k + 1, _, rfl, by go_num, by omega, ?_, hid ?_, HB2⟩
        · simp only [ByteArray.size_append]; have e2 : (⟨#[32]⟩ : ByteArray).size = 1 := rfl; omega
        · rw [HTN.out, ← HT.out, ← HQ.out]; simp
      case measure => simp [intOf]; omega
    · have hki : ¬ (k : Int) < 32 := by omega
      have hk2 : k = 32 := by omega
      subst hk2
      clear hlt hki
      go_wp2_with fail
      go_loopw [3, 7] (fun s r wr => ∃ (k : Nat) (t : ByteArray), s = .string t ∧ r = .int .i64 ((2048 + k : Nat) : Int) ∧ k ≤ 2048 ∧ t.size ≤ 704 + 50 * k ∧ Hid (t.data.toList = Pn.rgT regs 32 ++ Pn.mmT mem k) ∧ Hid (Below w.heap.size w wr)) (fun _ r _ => 4096 - (intOf r).toNat)
      case atStart => exact ⟨0, t, rfl, rfl, by omega, by omega, hid (by rw [HT.out]; simp [Pn.mmT]), HB⟩
      case round =>
        clear HT HB hsz
        obtain ⟨k, t, rfl, rfl, hk, hsz, HT, HB⟩ := hrel
        by_cases hlt : k < 2048
        · have hki : ((2048 + k : Nat) : Int) < 4096 := by omega
          have HG := hid (ppeek_up b (2048 + k) wr (HM.out.next HB.out) (by omega))
          have hx := mem_inB HM.out (2048 + k)
          have HTN : Hid (Pn.mmT mem (k + 1) = Pn.mmT mem k ++ (if mem.getD (2048 + k) 0 = 0 then [] else Lib.itoa ((2048 + k : Nat) : Int) ++ [58, 32] ++ Lib.itoa (mem.getD (2048 + k) 0) ++ [32])) := hid rfl
          generalize mem.getD (2048 + k) 0 = x at *
          generalize hA : ((2048 + k : Nat) : Int) = A at *
          have wk : IntKind.i64.wrap (A + 1) = A + 1 := IntWalk.i64_in _ (by omega)
          have HA := hid hA
          have hA2 : A < 4096 ∧ 0 ≤ A := by omega
          clear hA
          by_cases h0 : x = 0
          · subst h0
            go_wp2_with fail
            refine HG.out.mono ?_
            rintro e w1 ⟨rfl, rfl⟩
            go_wp2_with fail
            refine ⟨?_, ?measure⟩
            repeat apply Exists.intro
            refine And.intro ?rel rfl
            case rel =>
              refine ⟨k + 1, _, rfl, ?_, by omega, by omega, hid ?_, HB⟩
              · congr 1; have := HA.out; omega
              · rw [HTN.out, HT.out]; simp
            case measure => have := HA.out; simp [intOf]; omega
          · go_wp2_with fail
            refine HG.out.mono ?_
            rintro e w1 ⟨rfl, rfl⟩
            go_wp2_with fail
            refine (itoa_is A _ (by omega) (by omega) (HE.out.below HB.out HE.out.1)).mono ?_
            rintro e w2 ⟨q, rfl, hq, HQ, hB2⟩
            have HB2 := hid (HB.out.trans (hB2.mono HB.out.size))
            have u1 : ¬ (9223372036854775807 : Int) < t.size + q.size := by omega
            have u2 : ¬ 9223372036854775807 < t.size + q.size := by omega
            have u3 : ¬ (9223372036854775807 : Int) < t.size + q.size + 2 := by omega
            have u4 : ¬ 9223372036854775807 < t.size + q.size + 2 := by omega
            clear hB2 HG
            go_wp2_with fail
            refine (itoa_is x _ (by omega) (by omega) (HE.out.below HB2.out HE.out.1)).mono ?_
            rintro e w3 ⟨q2, rfl, hq2, HQ2, hB3⟩
            have HB3 := hid (HB2.out.trans (hB3.mono HB2.out.size))
            have v1 : ¬ (9223372036854775807 : Int) < t.size + q.size + 2 + q2.size := by omega
            have v2 : ¬ 9223372036854775807 < t.size + q.size + 2 + q2.size := by omega
            have v3 : ¬ (9223372036854775807 : Int) < t.size + q.size + 2 + q2.size + 1 := by omega
            have v4 : ¬ 9223372036854775807 < t.size + q.size + 2 + q2.size + 1 := by omega
            clear hB3
            go_wp2_with fail
            refine ⟨?_, ?measure⟩
            repeat apply Exists.intro
            refine And.intro ?rel rfl
            case rel =>
              refine ⟨k + 1, _, rfl, ?_, by omega, ?_, hid ?_, HB3⟩
              · congr 1; have := HA.out; omega
              · simp only [ByteArray.size_append]; have e2 : (⟨#[32]⟩ : ByteArray).size = 1 := rfl; have e3 : (⟨#[58, 32]⟩ : ByteArray).size = 2 := rfl; omega
              · rw [HTN.out, if_neg h0, ← List.append_assoc, ← HT.out, ← HQ.out, ← HQ2.out]; simp
            case measure => have := HA.out; simp [intOf]; omega
        · have hk2 : k = 2048 := by omega
          subst hk2
          clear hlt
          go_wp2_with fail
          go_ret
          exact ⟨t, rfl, by rw [HT.out]; rfl, HB.out⟩
end Go.Proofs.YtbmcofdodfcnnaaGreatDoor
namespace Pn
open Go
theorem w64B (x : Int) : -9223372036854775808 ≤ IntKind.i64.wrap x ∧ IntKind.i64.wrap x < 9223372036854775808 := by
  rw [IntKind.wrap_i64]; omega
theorem lowB (x : Int) : -2147483648 ≤ low x ∧ low x < 2147483648 := by
  unfold low; rw [IntKind.wrap_i32]; omega
theorem truB (t : Bool) : 0 ≤ tru t ∧ tru t ≤ 1 := by unfold tru; split <;> omega
theorem divB {a : Int} (n : Nat) {m : Int} (hm : 0 < m) (h : -m ≤ a ∧ a < m) : -m ≤ a / 2 ^ n ∧ a / 2 ^ n < m := by
  have hd : (1 : Int) ≤ 2 ^ n := by
    have := Int.pow_pos (n := 2) (m := n) (by decide)
    omega
  have h1 : m * 1 ≤ m * 2 ^ n := Int.mul_le_mul_of_nonneg_left hd (by omega)
  constructor
  · refine (Int.le_ediv_iff_mul_le (by omega)).2 ?_
    rw [Int.neg_mul]
    omega
  · refine Int.ediv_lt_of_lt_mul (by omega) ?_
    omega
theorem tmodB {a : Int} (b : Int) {m : Int} (h : -m ≤ a ∧ a < m) : -m ≤ a.tmod b ∧ a.tmod b < m := by
  rcases Int.le_total 0 a with h0 | h0
  · have h1 := Int.tmod_nonneg b h0
    have h2 : (a.tmod b).natAbs ≤ a.natAbs := by rw [Int.natAbs_tmod]; exact Nat.mod_le _ _
    omega
  · have h1 := Int.tmod_nonneg b (a := -a) (by omega)
    have h2 : (a.tmod b).natAbs ≤ a.natAbs := by rw [Int.natAbs_tmod]; exact Nat.mod_le _ _
    rw [Int.neg_tmod] at h1
    omega
theorem quoB (a b : Int) : -9223372036854775808 ≤ quo a b ∧ quo a b < 9223372036854775808 := by
  unfold quo; split
  · omega
  · exact w64B _
theorem quoUB (a b : Int) : -9223372036854775808 ≤ quoU a b ∧ quoU a b < 9223372036854775808 := by
  unfold quoU; split
  · omega
  · exact w64B _
theorem remUB {a : Int} (b : Int) (h : -9223372036854775808 ≤ a ∧ a < 9223372036854775808) : -9223372036854775808 ≤ remU a b ∧ remU a b < 9223372036854775808 := by
  unfold remU; split
  · exact h
  · exact w64B _
theorem remB {a : Int} (b : Int) {m : Int} (h : -m ≤ a ∧ a < m) : -m ≤ rem' a b ∧ rem' a b < m := by
  unfold rem'; split
  · exact h
  · exact tmodB b h
theorem highB (a b : Int) : -9223372036854775808 ≤ high a b ∧ high a b < 9223372036854775808 := w64B _
theorem bitsB (op : BinOp) (a b : Int) : -9223372036854775808 ≤ Go.bits op .i64 a b ∧ Go.bits op .i64 a b < 9223372036854775808 := by
  unfold Go.bits
  exact w64B _
theorem compB (op : Nat) {a b : Int} (ha : -9223372036854775808 ≤ a ∧ a < 9223372036854775808) : -9223372036854775808 ≤ comp op a b ∧ comp op a b < 9223372036854775808 := by
  have hl := lowB a
  unfold comp
  split
  all_goals first
    | with_reducible exact w64B _
    | with_reducible exact bitsB _ _ _
    | with_reducible exact highB _ _
    | (unfold orz; with_reducible exact bitsB _ _ _)
    | (unfold andz; with_reducible exact bitsB _ _ _)
    | with_reducible exact quoB _ _
    | with_reducible exact quoUB _ _
    | with_reducible exact remUB _ ha
    | with_reducible exact remB _ ha
    | with_reducible exact divB _ (by decide) ha
    | (have h1 := truB (decide (a < b)); omega)
    | (have h1 := truB (decide (a % 18446744073709551616 < b % 18446744073709551616)); omega)
    | (have h1 := remB (m := 2147483648) (low b) hl; omega)
    | (have h1 := divB (m := 2147483648) (b % 32).toNat (by decide) hl; omega)
    | (have h1 := lowB (a + b); omega)
    | (have h1 := lowB (a - b); omega)
    | (have h1 := lowB (a * 2 ^ (b % 32).toNat); omega)
    | (have h1 := lowB (a % 4294967296 / 2 ^ (b % 32).toNat); omega)
    | (have h1 := lowB (a * b); omega)
    | (have h1 := lowB (quo (low a) (low b)); omega)
    | (have h1 := lowB (quoU (a % 4294967296) (b % 4294967296)); omega)
    | (have h1 := lowB (remU (a % 4294967296) (b % 4294967296)); omega)
    | omega
end Pn
namespace Go.Proofs.YtbmcofdodfcnnaaGreatDoor
open Go.RowKit
theorem byN_lt' (L : List UInt8) (k : Nat) : 0 ≤ byN L k ∧ byN L k < 256 := by
  unfold byN
  have := (L.getD k 0).toNat_lt
  omega
theorem num_cons {mem : List Int} {a n : Nat} (ha : a < mem.length) (h0 : 0 ≤ mem.getD a 0 ∧ mem.getD a 0 < 256) : Pn.numN (byt mem a (n + 1)) = mem.getD a 0 + 256 * Pn.numN (byt mem (a + 1) n) := by
  have e : mem.getD a 0 = mem[a] := by simp [List.getD, ha]
  rw [e] at h0 ⊢
  unfold byt
  rw [List.drop_eq_getElem_cons ha, List.take_succ_cons, List.map_cons, Pn.numN, UInt8.toNat_ofNat']
  omega
theorem num_nil (mem : List Int) (a : Nat) : Pn.numN (byt mem a 0) = 0 := by simp [byt, Pn.numN]
theorem place_two {xs : List IX} {k : Nat} {x : IX} (hx : xs[k]? = some x) (ho : XOk x) (e : x.2 = 2) : byN (xs.flatMap bX) (placeX xs k) + 256 * byN (xs.flatMap bX) (placeX xs k + 1) = (Pn.shortP x.1).1 ∧ byN (xs.flatMap bX) (placeX xs k) % 4 ≠ 3 ∧ Pn.expP (Pn.shortP x.1).1 = (x.1, 0) := by
  have hsp := place_split hx
  obtain ⟨a1, a2, a3⟩ := two_by (i := x.1) (p := (xs.take k).flatMap bX) (r := (xs.drop (k + 1)).flatMap bX) (ho.2.2 e)
  have eb : Pn.bI x.1 2 = bX x := by unfold bX; rw [e]
  rw [eb, ← hsp] at a1 a2
  exact ⟨a1, a2, a3⟩
theorem place_four {xs : List IX} {k : Nat} {x : IX} (hx : xs[k]? = some x) (ho : XOk x) (e : x.2 = 4) : byN (xs.flatMap bX) (placeX xs k) % 4 = 3 ∧ placeX xs k + 4 ≤ (xs.flatMap bX).length ∧
    byN (xs.flatMap bX) (placeX xs k) + 256 * byN (xs.flatMap bX) (placeX xs k + 1) + 65536 * byN (xs.flatMap bX) (placeX xs k + 2) + 16777216 * byN (xs.flatMap bX) (placeX xs k + 3) = (Pn.enc x.1).1 ∧ Pn.dec (Pn.enc x.1).1 = (x.1, 0) := by
  have hsp := place_split hx
  obtain ⟨a1, a2, a3, a4⟩ := four_by (i := x.1) (p := (xs.take k).flatMap bX) (r := (xs.drop (k + 1)).flatMap bX) ho.1
  have eb : Pn.bI x.1 4 = bX x := by unfold bX; rw [e]
  rw [eb, ← hsp] at a1 a2 a3
  exact ⟨a1, a2, a3, a4⟩
theorem step_code (b : Nat) {xs : List IX} {k : Nat} {x : IX} (u v : Int) (w : World) {T : TypeId} {mem mem' regs regs' : List Int} {pc' : Int} (hx : xs[k]? = some x) (hok : ∀ x ∈ xs, XOk x)
    (hm : ∀ j, j < (xs.flatMap bX).length → mem.getD j 0 = byN (xs.flatMap bX) j) (hl : (xs.flatMap bX).length ≤ 2048) (h : IsM T b mem regs (placeX xs k : Int) w)
    (hdo : ∀ w1, IsM T b mem regs (placeX xs k : Int) w1 → Calls Tryz.prog 90 #[.pointer (some ⟨b, 0, none⟩), x.1.val, .int .i64 (placeX xs k + x.2)] w1 fun e w' => e = .returned (evV u v) ∧ IsM T b mem' regs' pc' w' ∧ Kept b w1 w') :
    Calls Tryz.prog 48 #[.pointer (some ⟨b, 0, none⟩)] w fun e w' => e = .returned (evV u v) ∧ IsM T b mem' regs' pc' w' ∧ Kept b w w' := by
  have ho := hok x (List.mem_of_getElem? hx)
  have hk := (List.getElem?_eq_some_iff.1 hx).1
  have hp := place_lt hok hk
  have hml := h.mlen
  have hb : ∀ j, j < (xs.flatMap bX).length → 0 ≤ mem.getD j 0 ∧ mem.getD j 0 < 256 := fun j hj => by rw [hm j hj]; exact byN_lt' _ _
  rcases ho.2.1 with e | e
  · obtain ⟨a1, a2, a3⟩ := place_two hx ho e
    have hn : Pn.numN (byt mem (placeX xs k) 2) = (Pn.shortP x.1).1 := by
      rw [num_cons (by omega) (hb _ (by omega)), num_cons (by omega) (hb _ (by omega)), num_nil, hm _ (by omega), hm _ (by omega), ← a1]
      omega
    have b0 := byN_lt' (xs.flatMap bX) (placeX xs k)
    have b1 := byN_lt' (xs.flatMap bX) (placeX xs k + 1)
    refine step_half b (placeX xs k) x.1 u v w h (by omega) (by rw [hn]; omega) ?_ (fun w1 h1 => ?_)
    · unfold rdP
      rw [hn, IntWalk.i64_in _ (by omega)]
      exact a3
    · have := hdo w1 h1
      rw [e] at this
      exact this
  · obtain ⟨a1, a2, a3, a4⟩ := place_four hx ho e
    have hn : Pn.numN (byt mem (placeX xs k) 4) = (Pn.enc x.1).1 := by
      rw [num_cons (by omega) (hb _ (by omega)), num_cons (by omega) (hb _ (by omega)), num_cons (by omega) (hb _ (by omega)), num_cons (by omega) (hb _ (by omega)), num_nil, hm _ (by omega), hm _ (by omega), hm _ (by omega), hm _ (by omega), ← a3]
      simp only [Nat.add_assoc, Nat.reduceAdd]
      omega
    have hn2 : Pn.numN (byt mem (placeX xs k) 2) % 4 = 3 := by
      rw [num_cons (by omega) (hb _ (by omega)), num_cons (by omega) (hb _ (by omega)), num_nil, hm _ (by omega), hm _ (by omega)]
      omega
    have b0 := byN_lt' (xs.flatMap bX) (placeX xs k)
    have b1 := byN_lt' (xs.flatMap bX) (placeX xs k + 1)
    have b2 := byN_lt' (xs.flatMap bX) (placeX xs k + 2)
    have b3 := byN_lt' (xs.flatMap bX) (placeX xs k + 3)
    refine step_word b (placeX xs k) x.1 u v w h (by omega) hn2 ?_ (fun w1 h1 => ?_)
    · unfold rdP
      rw [hn, IntWalk.i64_in _ (by omega)]
      exact a4
    · have := hdo w1 h1
      rw [e] at this
      exact this
end Go.Proofs.YtbmcofdodfcnnaaGreatDoor
namespace Pn
open Go
theorem kind_R : ∀ k, k < 28 → (row k).kind = 82 := by decide
theorem kind_I : ∀ k, k < 41 → 28 ≤ k → (row k).kind = 73 ∨ (row k).kind = 72 ∨ (row k).kind = 87 := by decide
theorem kind_L : ∀ k, k < 48 → 41 ≤ k → (row k).kind = 76 := by decide
theorem kind_S : ∀ k, k < 53 → 49 ≤ k → (row k).kind = 83 := by decide
theorem right_R {k : Nat} (hk : (row k).kind = 82) (hk2 : k < 64) {rd r1 r2 imm : Int} (h : right ⟨k + 1, rd, r1, r2, imm⟩ = true) : (0 ≤ rd ∧ rd ≤ 31) ∧ (0 ≤ r1 ∧ r1 ≤ 31) ∧ (0 ≤ r2 ∧ r2 ≤ 31) ∧ imm = 0 := by
  rw [right_succ k _ _ _ _ hk2, hk] at h
  simp [has, register, between, fitsImm] at h
  omega
theorem right_I {k : Nat} (hk : (row k).kind = 73 ∨ (row k).kind = 72 ∨ (row k).kind = 87 ∨ (row k).kind = 76) (hk2 : k < 64) {rd r1 r2 imm : Int} (h : right ⟨k + 1, rd, r1, r2, imm⟩ = true) : (0 ≤ rd ∧ rd ≤ 31) ∧ (0 ≤ r1 ∧ r1 ≤ 31) ∧ r2 = 0 ∧ -2048 ≤ imm ∧ imm ≤ 2047 := by
  rw [right_succ k _ _ _ _ hk2] at h
  rcases hk with hk | hk | hk | hk
  all_goals
    rw [hk] at h
    simp [has, register, between, fitsImm] at h
    omega
theorem right_S {k : Nat} (hk : (row k).kind = 83) (hk2 : k < 64) {rd r1 r2 imm : Int} (h : right ⟨k + 1, rd, r1, r2, imm⟩ = true) : rd = 0 ∧ (0 ≤ r1 ∧ r1 ≤ 31) ∧ (0 ≤ r2 ∧ r2 ≤ 31) ∧ -2048 ≤ imm ∧ imm ≤ 2047 := by
  rw [right_succ k _ _ _ _ hk2, hk] at h
  simp [has, register, between, fitsImm] at h
  omega
theorem right_U {rd r1 r2 imm : Int} (h : right ⟨60, rd, r1, r2, imm⟩ = true) : (0 ≤ rd ∧ rd ≤ 31) ∧ r1 = 0 ∧ r2 = 0 ∧ -524288 ≤ imm ∧ imm ≤ 524287 := by
  have e : right ⟨60, rd, r1, r2, imm⟩ = _ := right_succ 59 rd r1 r2 imm (by omega)
  rw [e, show (row 59).kind = 85 from rfl] at h
  simp [has, register, between, fitsImm] at h
  omega
end Pn
namespace Go.Proofs.YtbmcofdodfcnnaaGreatDoor
open Go.RowKit
def adr (i : Pn.Ins) (regs : List Int) : Nat := (regs.getD i.rs1.toNat 0 + i.imm).toNat
def exe (i : Pn.Ins) (mem regs : List Int) : List Int × List Int :=
  if i.op ≤ 28 then (mem, rset regs i.rd.toNat (Pn.comp i.op.toNat (regs.getD i.rs1.toNat 0) (regs.getD i.rs2.toNat 0)))
  else if i.op ≤ 41 then (mem, rset regs i.rd.toNat (Pn.comp i.op.toNat (regs.getD i.rs1.toNat 0) i.imm))
  else if i.op ≤ 48 then (mem, rset regs i.rd.toNat (Pn.sgP i.op (rdP mem (adr i regs) (Pn.szP i.op))))
  else if i.op ≤ 53 then (mput mem (adr i regs) (Pn.bytN (Pn.szP i.op) (regs.getD i.rs2.toNat 0)), regs)
  else (mem, rset regs i.rd.toNat (IntKind.i64.wrap (i.imm * 4096)))
def Safe (i : Pn.Ins) (regs : List Int) : Prop := (1 ≤ i.op ∧ i.op ≤ 41) ∨ (((42 ≤ i.op ∧ i.op ≤ 48) ∨ (50 ≤ i.op ∧ i.op ≤ 53)) ∧ 0 ≤ regs.getD i.rs1.toNat 0 + i.imm ∧ regs.getD i.rs1.toNat 0 + i.imm + 8 ≤ 4096) ∨ i.op = 60
theorem do_plain (b : Nat) (i : Pn.Ins) (p : Int) (w : World) {T : TypeId} {mem regs : List Int} {pc : Int} (h : IsM T b mem regs pc w) (hr : Pn.right i = true) (hs : Safe i regs) (hin : ∀ k, inB (regs.getD k 0)) :
    Calls Tryz.prog 90 #[.pointer (some ⟨b, 0, none⟩), i.val, .int .i64 p] w fun e w' => e = .returned (evV 0 0) ∧ IsM T b (exe i mem regs).1 (exe i mem regs).2 p w' ∧ Kept b w w' := by
  obtain ⟨k, hk, ho⟩ := Pn.right_op hr
  obtain ⟨op, rd, r1, r2, imm⟩ := i
  simp only at ho
  subst ho
  have e1 : ((k + 1 : Nat) : Int) = (k : Int) + 1 := by omega
  have e2 : ((k : Int) + 1).toNat = k + 1 := by omega
  have hv := Pn.rightV_yes hr
  unfold Safe at hs
  simp only at hs
  rcases Nat.lt_or_ge k 28 with h1 | h1
  · obtain ⟨⟨a1, a2⟩, ⟨a3, a4⟩, ⟨a5, a6⟩, rfl⟩ := Pn.right_R (Pn.kind_R k h1) hk hr
    obtain ⟨rd, rfl⟩ := Int.eq_ofNat_of_zero_le a1
    obtain ⟨r1, rfl⟩ := Int.eq_ofNat_of_zero_le a3
    obtain ⟨r2, rfl⟩ := Int.eq_ofNat_of_zero_le a5
    have he : exe ⟨(k : Int) + 1, rd, r1, r2, 0⟩ mem regs = (mem, rset regs rd (Pn.comp (k + 1) (regs.getD r1 0) (regs.getD r2 0))) := by
      unfold exe
      simp only [e2, Int.toNat_natCast]
      rw [if_pos (by omega)]
    have := do_R b (k + 1) r1 r2 rd p w h (by omega) (by omega) (by omega) (by omega) (by omega) (by rw [e1]; exact hv) (by rw [Nat.add_sub_cancel, Pn.kind_R k h1]; rfl) (hin _) (hin _)
    rw [he]
    rw [e1] at this
    exact this
  · rcases Nat.lt_or_ge k 41 with h2 | h2
    · have hkd := Pn.kind_I k h2 h1
      obtain ⟨⟨a1, a2⟩, ⟨a3, a4⟩, rfl, a5, a6⟩ := Pn.right_I (by rcases hkd with q | q | q <;> simp [q]) hk hr
      obtain ⟨rd, rfl⟩ := Int.eq_ofNat_of_zero_le a1
      obtain ⟨r1, rfl⟩ := Int.eq_ofNat_of_zero_le a3
      have he : exe ⟨(k : Int) + 1, rd, r1, 0, imm⟩ mem regs = (mem, rset regs rd (Pn.comp (k + 1) (regs.getD r1 0) imm)) := by
        unfold exe
        simp only [e2, Int.toNat_natCast]
        rw [if_neg (by omega), if_pos (by omega)]
      have := do_I (Pn.kdI (Pn.row k).kind) (by rcases hkd with q | q | q <;> rw [q] <;> simp [Pn.kdI]) b (k + 1) r1 rd imm p w h (by omega) (by omega) (by omega) (by omega) (by rw [e1]; exact hv) (by rw [Nat.add_sub_cancel]) (hin _) (by unfold inB; omega)
      rw [he]
      rw [e1] at this
      exact this
    · rcases hs with hs | hs | hs
      · omega
      · obtain ⟨hs1, hs2, hs3⟩ := hs
        rcases Nat.lt_or_ge k 48 with h3 | h3
        · have hkd := Pn.kind_L k h3 h2
          obtain ⟨⟨a1, a2⟩, ⟨a3, a4⟩, rfl, a5, a6⟩ := Pn.right_I (by simp [hkd]) hk hr
          obtain ⟨rd, rfl⟩ := Int.eq_ofNat_of_zero_le a1
          obtain ⟨r1, rfl⟩ := Int.eq_ofNat_of_zero_le a3
          simp only [Int.toNat_natCast] at hs2 hs3
          obtain ⟨a, ha⟩ := Int.eq_ofNat_of_zero_le hs2
          have hz := Pn.szP_pos ((k : Int) + 1)
          have he : exe ⟨(k : Int) + 1, rd, r1, 0, imm⟩ mem regs = (mem, rset regs rd (Pn.sgP ((k : Int) + 1) (rdP mem a (Pn.szP ((k : Int) + 1))))) := by
            unfold exe adr
            simp only [Int.toNat_natCast, ha]
            rw [if_neg (by omega), if_neg (by omega), if_pos (by omega)]
          have := do_L b (k + 1) r1 rd imm p a 0 0 w h (by omega) (by omega) (by rw [e1]; exact hv) (by rw [Nat.add_sub_cancel, hkd]; rfl) (by rw [ha]; exact IntWalk.i64_in _ (by omega))
            (fun w1 hw1 => load_in b a (k + 1) rd r1 0 imm p w1 hw1 (by rw [e1]; omega) (by omega))
          rw [he]
          rw [e1] at this
          exact this
        · have hkd := Pn.kind_S k (by omega) (by omega)
          obtain ⟨rfl, ⟨a1, a2⟩, ⟨a3, a4⟩, a5, a6⟩ := Pn.right_S hkd hk hr
          obtain ⟨r1, rfl⟩ := Int.eq_ofNat_of_zero_le a1
          obtain ⟨r2, rfl⟩ := Int.eq_ofNat_of_zero_le a3
          simp only [Int.toNat_natCast] at hs2 hs3
          obtain ⟨a, ha⟩ := Int.eq_ofNat_of_zero_le hs2
          have hz := Pn.szP_pos ((k : Int) + 1)
          have he : exe ⟨(k : Int) + 1, 0, r1, r2, imm⟩ mem regs = (mput mem a (Pn.bytN (Pn.szP ((k : Int) + 1)) (regs.getD r2 0)), regs) := by
            unfold exe adr
            simp only [Int.toNat_natCast, ha]
            rw [if_neg (by omega), if_neg (by omega), if_neg (by omega), if_pos (by omega)]
          have := do_S b (k + 1) r1 r2 imm p a 0 0 w h (by omega) (by omega) (by rw [e1]; exact hv) (by rw [Nat.add_sub_cancel, hkd]; rfl) (by rw [ha]; exact IntWalk.i64_in _ (by omega))
            (fun w1 hw1 => store_in b a (k + 1) r2 r1 imm p w1 hw1 (by rw [e1]; omega) (by omega))
          rw [he]
          rw [e1] at this
          exact this
      · have hk59 : k = 59 := by omega
        subst hk59
        obtain ⟨⟨a1, a2⟩, rfl, rfl, a5, a6⟩ := Pn.right_U hr
        obtain ⟨rd, rfl⟩ := Int.eq_ofNat_of_zero_le a1
        exact do_U b rd imm p _ w h (by omega) hv (by decide) rfl
end Go.Proofs.YtbmcofdodfcnnaaGreatDoor
