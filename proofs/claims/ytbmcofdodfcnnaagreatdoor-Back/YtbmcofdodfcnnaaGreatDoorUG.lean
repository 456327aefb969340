import Derived.Test.YtbmcofdodfcnnaaGreatDoorGUD
import Derived.Test.YtbmcofdodfcnnaaGreatDoorVE
namespace Go.Proofs.YtbmcofdodfcnnaaGreatDoor
open Go.RowKit
/-- n is the word of the op o of x1, x2, x3 -/
structure WOk (o : Nat) (n : Int) : Prop where
  enc : Pn.enc ⟨o, 1, 2, 3, 0⟩ = (n, 0)
  dec : Pn.dec n = (⟨o, 1, 2, 3, 0⟩, 0)
  low : n % 4 = 3
  n0 : 0 ≤ n
  n1 : n < 4294967296
  rv : Pn.rightV ⟨o, 1, 2, 3, 0⟩ = .tuple #[Pn.irowV (o - 1), .bool true]
  kd : Pn.kdI (Pn.row (o - 1)).kind = 0
  o1 : 1 ≤ o
  o2 : o ≤ 28
theorem wok_11 : WOk 11 36765875 := ⟨by kernel_rfl, by kernel_rfl, by decide, by decide, by decide, by kernel_rfl, by kernel_rfl, by decide, by decide⟩
theorem wok_12 : WOk 12 36769971 := ⟨by kernel_rfl, by kernel_rfl, by decide, by decide, by decide, by kernel_rfl, by kernel_rfl, by decide, by decide⟩
theorem wok_13 : WOk 13 36774067 := ⟨by kernel_rfl, by kernel_rfl, by decide, by decide, by decide, by kernel_rfl, by kernel_rfl, by decide, by decide⟩
theorem wok_14 : WOk 14 36778163 := ⟨by kernel_rfl, by kernel_rfl, by decide, by decide, by decide, by kernel_rfl, by kernel_rfl, by decide, by decide⟩
theorem wok_15 : WOk 15 36782259 := ⟨by kernel_rfl, by kernel_rfl, by decide, by decide, by decide, by kernel_rfl, by kernel_rfl, by decide, by decide⟩
theorem wok_16 : WOk 16 36786355 := ⟨by kernel_rfl, by kernel_rfl, by decide, by decide, by decide, by kernel_rfl, by kernel_rfl, by decide, by decide⟩
theorem wok_17 : WOk 17 36790451 := ⟨by kernel_rfl, by kernel_rfl, by decide, by decide, by decide, by kernel_rfl, by kernel_rfl, by decide, by decide⟩
theorem wok_18 : WOk 18 36794547 := ⟨by kernel_rfl, by kernel_rfl, by decide, by decide, by decide, by kernel_rfl, by kernel_rfl, by decide, by decide⟩
theorem wok_25 : WOk 25 36782267 := ⟨by kernel_rfl, by kernel_rfl, by decide, by decide, by decide, by kernel_rfl, by kernel_rfl, by decide, by decide⟩
theorem wok_27 : WOk 27 36790459 := ⟨by kernel_rfl, by kernel_rfl, by decide, by decide, by decide, by kernel_rfl, by kernel_rfl, by decide, by decide⟩
theorem bytes4 (n : Int) (n0 : 0 ≤ n) (n1 : n < 4294967296) : strOfNums [n % 256, n / 256 % 256, n / 65536 % 256, n / 16777216] = ⟨(Pn.bytN 4 n).toArray⟩ := by
  have e1 : n / 65536 % 256 = n / 256 / 256 % 256 := by omega
  have e2 : n / 16777216 = n / 256 / 256 / 256 % 256 := by omega
  simp only [strOfNums, Pn.bytN, List.map_cons, List.map_nil, e1, e2]
theorem byt_mput (l : List UInt8) (k : Nat) (h : k ≤ l.length) (mem : List Int) : byt (mput mem 0 l) 0 k = l.take k := by
  unfold byt mput
  rw [List.take_zero, List.nil_append, List.drop_zero, List.take_append_of_le_length (by simpa using h), ← List.map_take, List.map_map]
  refine (List.map_congr_left (fun x _ => ?_)).trans (List.map_id _)
  simp
theorem bytN_take (n : Nat) (x : Int) (k : Nat) (h : k ≤ n) : (Pn.bytN n x).take k = Pn.bytN k x := by
  induction n generalizing x k with
  | zero => have : k = 0 := by omega
            subst this; rfl
  | succ n ih =>
    cases k with
    | zero => rfl
    | succ k => simp only [Pn.bytN, List.take_succ_cons, ih _ k (by omega)]
/-- the machine that has one word -/
def mem1 (n : Int) : List Int := mput zmem 0 (Pn.bytN 4 n)
theorem mem1_low (n : Int) (h : n % 4 = 3) : Pn.numN (byt (mem1 n) 0 2) % 4 = 3 := by
  unfold mem1
  rw [byt_mput _ 2 (by rw [Pn.bytN_len]; decide), bytN_take _ _ _ (by decide), Pn.numN_bytN]
  simp
  omega
theorem mem1_word (n : Int) (n0 : 0 ≤ n) (n1 : n < 4294967296) : rdP (mem1 n) 0 4 = n := by
  unfold mem1 rdP
  rw [byt_mput _ 4 (by rw [Pn.bytN_len]; decide), bytN_take _ _ _ (by decide), Pn.numN_bytN, IntKind.wrap_i64]
  simp
  omega
theorem reg_bd : ∀ x ∈ zreg, x = 0 := fun x hx => by simp [zreg] at hx; exact hx
def reg2 (a b : Int) : List Int := rset (rset zreg 2 a) 3 b
theorem reg2_2 (a b : Int) : (reg2 a b).getD 2 0 = a := by rfl
theorem reg2_3 (a b : Int) : (reg2 a b).getD 3 0 = b := by rfl
theorem reg2_1 (a b x : Int) : (rset (reg2 a b) 1 x).getD 1 0 = x := by rfl
theorem step_R (o : Nat) (n a b : Int) (h : WOk o n) (ha : inB a) (hb : inB b) (bM : Nat) (T : TypeId) (w1 : World) (hm : IsM T bM (mem1 n) (reg2 a b) 0 w1) :
    Calls Tryz.prog 48 #[.pointer (some ⟨bM, 0, none⟩)] w1 fun e w' => e = .returned (evV 0 0) ∧ IsM T bM (mem1 n) (rset (reg2 a b) 1 (Pn.comp o a b)) 4 w' ∧ Kept bM w1 w' := by
  have hd := fun (w2 : World) (h2 : IsM T bM (mem1 n) (reg2 a b) ((0 : Nat) : Int) w2) => do_R bM o 2 3 1 ((((0 : Nat) : Int) + 4)) w2 h2 (by decide) (by decide) (by decide) h.o1 h.o2 h.rv h.kd (by rw [reg2_2]; exact ha) (by rw [reg2_3]; exact hb)
  rw [reg2_2, reg2_3] at hd
  exact step_word bM 0 ⟨o, 1, 2, 3, 0⟩ 0 0 w1 hm (by decide) (mem1_low n h.low) (by rw [mem1_word n h.n0 h.n1]; exact h.dec) hd
set_option maxRecDepth 20000 in
set_option maxHeartbeats 1000000 in
theorem km_is (o : Nat) (n a b : Int) (w : World) (h : WOk o n) (ha : inB a) (hb : inB b) :
    Calls Tryz.prog 29 #[.int .i64 o, .int .i64 a, .int .i64 b] w fun e w' => e = .returned (.tuple #[.int .i64 (Pn.comp o a b), .bool true]) ∧ Below w.heap.size w w' := by
  have n0 := h.n0
  have n1 := h.n1
  go_enter Tryz.func29, Tryz.ntmps29
  go_wp2_with fail
  refine (pencode_any (Pn.Ins.mk o 1 2 3 0) _).mono ?_
  rintro e w1 ⟨rfl, hB1⟩
  rw [h.enc]
  have hsz1 := hB1.size
  have HB1 := (show Hid _ from hB1)
  clear hB1
  have HS := (show Hid _ from run_convert_bytes_arg (P := Tryz.prog) (w1.alloc (.cells #[.int .u8 (n % 256), .int .u8 (n / 256 % 256), .int .u8 (n / 65536 % 256), .int .u8 (n / 16777216)] 5)) 65 5 Tryz.underlying65 Tryz.underlying5 w1.heap.size 0 4 4 [n % 256, n / 256 % 256, n / 65536 % 256, n / 16777216] rfl (fun i hi => by
    rw [cell_of_row _ _ _ _ _ _ (heap_alloc_last w1 _)]
    match i, hi with
    | 0, _ => rfl
    | 1, _ => rfl
    | 2, _ => rfl
    | 3, _ => rfl) 9 Tryz.underlying9)
  rw [bytes4 n n0 n1] at HS
  go_wp2_with fail
  rw [HS.out]
  go_wp2_with fail
  refine (pnew_is ⟨(Pn.bytN 4 n).toArray⟩ _ (by simp [ByteArray.size, Pn.bytN_len])).mono ?_
  rintro e w2 ⟨bM, rfl, hbM, hM2, hB2⟩
  have hle : w.heap.size ≤ bM := by simp at hbM; omega
  have HB2 : Hid (Below w.heap.size w w2) := ((HB1.out.alloc hsz1 _).trans (hB2.mono (by simp; omega)))
  have HM2 : Hid (IsM 92 bM (mem1 n) zreg 0 w2) := hM2
  clear hB2 hM2 hbM HS HB1 hsz1
  go_wp2_with fail
  refine (pset_in bM 2 a _ HM2.out (by decide)).mono ?_
  rintro e w3 ⟨rfl, hM3, hK3⟩
  have HM3 := (show Hid _ from hM3)
  have HB3 := (show Hid _ from hK3.below HB2.out hle (Nat.le_refl _))
  clear hM3 hK3 HM2 HB2
  go_wp2_with fail
  refine (pset_in bM 3 b _ HM3.out (by decide)).mono ?_
  rintro e w4 ⟨rfl, hM4, hK4⟩
  have HM4 : Hid (IsM 92 bM (mem1 n) (reg2 a b) 0 w4) := hM4
  have HB4 := (show Hid _ from hK4.below HB3.out hle (Nat.le_refl _))
  clear hM4 hK4 HM3 HB3
  go_wp2_with fail
  refine (pstep_is bM 0 0 _ HM4.out (step_R o n a b h ha hb bM _)).mono ?_
  rintro e w5 ⟨rfl, hM5, hK5⟩
  have HB5 := (show Hid _ from hK5.below HB4.out hle (Nat.le_refl _))
  have HM5 := (show Hid _ from hM5.alloc (.cells #[.int .i64 0, .int .i64 0] 56))
  have hs5 := HB5.out.size
  clear hM5 hK5 HM4 HB4
  unfold evV
  go_wp2_with fail
  refine (pget_in bM 1 _ HM5.out (by decide)).mono ?_
  rintro e w6 ⟨rfl, rfl⟩
  rw [reg2_1]
  generalize hX : Pn.comp o a b = X at *
  have HX := (show Hid _ from hX)
  clear hX
  go_wp2_with (go_at_call 31; refine (ppc_is bM _ HM5.out).mono ?_; rintro e w' ⟨rfl, rfl⟩)
  go_ret2
  exact ⟨by rw [HX.out]; rfl, HB5.out.alloc hs5 _⟩
end Go.Proofs.YtbmcofdodfcnnaaGreatDoor
