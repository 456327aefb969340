import Derived.Test.YtbmcofdodfcnnaaGreatDoorGUI
import Derived.Test.YtbmcofdodfcnnaaGreatDoorGU8
namespace Pn
open Go
theorem tmod_bd (c : Int) (m : Nat) (h : 0 ≤ c) (hm : 0 < m) : ∃ r : Nat, c.tmod m = r ∧ r < m := by
  refine ⟨(c.tmod m).toNat, ?_, ?_⟩
  · have := Int.tmod_nonneg (m : Int) h; omega
  · have h1 := Int.tmod_lt_of_pos c (show (0 : Int) < m by omega)
    have := Int.tmod_nonneg (m : Int) h; omega
end Pn
namespace Go.Proofs.YtbmcofdodfcnnaaGreatDoor
open Go.RowKit
theorem pick_is (c : Int) (m : Nat) (w : World) (hm : 0 < m) (hm2 : m ≤ 100000) (hc : inB c) :
    Calls Tryz.prog 26 #[.int .i64 c, .int .i64 m] w fun e w' => (∃ r : Nat, e = .returned (.int .i64 r) ∧ r < m) ∧ w' = w := by
  obtain ⟨c0, c1⟩ := hc
  have hm0 : ¬ (m : Int) = 0 := by omega
  by_cases h : c < 0
  · have h1 : wrap64 (c + 1) = c + 1 := by rw [wrap64_eq]; exact IntWalk.i64_in _ (by omega)
    have h2 : wrap64 (-(c + 1)) = -(c + 1) := by rw [wrap64_eq]; exact IntWalk.i64_in _ (by omega)
    obtain ⟨r, hr, hr2⟩ := Pn.tmod_bd (-(c + 1)) m (by omega) hm
    go_enter Tryz.func26, Tryz.ntmps26
    go_wp2
    go_ret
    exact ⟨⟨r, rfl, hr2⟩, rfl⟩
  · obtain ⟨r, hr, hr2⟩ := Pn.tmod_bd c m (by omega) hm
    go_enter Tryz.func26, Tryz.ntmps26
    go_wp2
    go_ret
    exact ⟨⟨r, rfl, hr2⟩, rfl⟩
end Go.Proofs.YtbmcofdodfcnnaaGreatDoor

namespace Go.Proofs.YtbmcofdodfcnnaaGreatDoor
open Go.RowKit
theorem byt_far (mem : List Int) (a a' n : Nat) (l : List UInt8) (h : a' + n ≤ a) (hm : a ≤ mem.length) : byt (mput mem a l) a' n = byt mem a' n := by
  unfold byt mput
  congr 1
  rw [List.append_assoc, List.drop_append_of_le_length (by rw [List.length_take]; omega), List.take_append_of_le_length (by rw [List.length_drop, List.length_take]; omega)]
  rw [List.drop_take, List.take_take]
  congr 1
  omega
theorem byt_near (mem : List Int) (a : Nat) (l : List UInt8) (hm : a ≤ mem.length) : byt (mput mem a l) a l.length = l := by
  unfold byt mput
  rw [List.append_assoc, List.drop_append, List.drop_of_length_le (by rw [List.length_take]; omega), List.nil_append, List.length_take, Nat.min_eq_left hm, Nat.sub_self, List.drop_zero]
  rw [List.take_append_of_le_length (by simp), List.take_of_length_le (by simp), List.map_map]
  refine (List.map_congr_left (fun x _ => ?_)).trans (List.map_id _)
  simp
theorem mput_get (mem : List Int) (a i : Nat) (l : List UInt8) (hm : a ≤ mem.length) (hi : i < l.length) : (mput mem a l).getD (a + i) 0 = ((l[i]'hi).toNat : Int) := by
  unfold mput
  rw [List.getD_eq_getElem?_getD, List.append_assoc, List.getElem?_append_right (by rw [List.length_take]; omega), List.length_take, Nat.min_eq_left hm]
  rw [show a + i - a = i by omega, List.getElem?_append_left (by simpa using hi)]
  simp [hi]
theorem zlen : zmem.length = 4096 := List.length_replicate
def stW (k : Nat) : Int := 3211299 + 4096 * k
def ldW (k : Nat) : Int := 66051 + 4096 * k
def smem (k : Nat) : List Int := mput zmem 0 (Pn.bytN 4 (stW k) ++ Pn.bytN 4 (ldW k))
structure SOk (k : Nat) : Prop where
  es : Pn.enc ⟨50 + k, 0, 2, 3, 0⟩ = (stW k, 0)
  el : Pn.enc ⟨42 + k, 4, 2, 0, 0⟩ = (ldW k, 0)
  ds : Pn.dec (stW k) = (⟨(50 + k : Nat), 0, (2 : Nat), (3 : Nat), 0⟩, 0)
  dl : Pn.dec (ldW k) = (⟨(42 + k : Nat), (4 : Nat), (2 : Nat), 0, 0⟩, 0)
  ws : rdP (smem k) 0 4 = stW k
  wl : rdP (smem k) 4 4 = ldW k
  ls : Pn.numN (byt (smem k) 0 2) % 4 = 3
  ll : Pn.numN (byt (smem k) 4 2) % 4 = 3
  vs : Pn.rightV ⟨(50 + k : Nat), 0, (2 : Nat), (3 : Nat), 0⟩ = .tuple #[Pn.irowV (50 + k - 1), .bool true]
  vl : Pn.rightV ⟨(42 + k : Nat), (4 : Nat), (2 : Nat), 0, 0⟩ = .tuple #[Pn.irowV (42 + k - 1), .bool true]
  ks : Pn.kdI (Pn.row (50 + k - 1)).kind = 5
  kl : Pn.kdI (Pn.row (42 + k - 1)).kind = 4
  zs : Pn.szP (50 + k : Nat) = 2 ^ k
  zl : Pn.szP (42 + k : Nat) = 2 ^ k
theorem sok_all : ∀ k, k < 4 → SOk k
  | 0, _ => ⟨by kernel_rfl, by kernel_rfl, by kernel_rfl, by kernel_rfl, by kernel_rfl, by kernel_rfl, by kernel_rfl, by kernel_rfl, by kernel_rfl, by kernel_rfl, by kernel_rfl, by kernel_rfl, by decide, by decide⟩
  | 1, _ => ⟨by kernel_rfl, by kernel_rfl, by kernel_rfl, by kernel_rfl, by kernel_rfl, by kernel_rfl, by kernel_rfl, by kernel_rfl, by kernel_rfl, by kernel_rfl, by kernel_rfl, by kernel_rfl, by decide, by decide⟩
  | 2, _ => ⟨by kernel_rfl, by kernel_rfl, by kernel_rfl, by kernel_rfl, by kernel_rfl, by kernel_rfl, by kernel_rfl, by kernel_rfl, by kernel_rfl, by kernel_rfl, by kernel_rfl, by kernel_rfl, by decide, by decide⟩
  | 3, _ => ⟨by kernel_rfl, by kernel_rfl, by kernel_rfl, by kernel_rfl, by kernel_rfl, by kernel_rfl, by kernel_rfl, by kernel_rfl, by kernel_rfl, by kernel_rfl, by kernel_rfl, by kernel_rfl, by decide, by decide⟩
  | k + 4, h => absurd h (by omega)
theorem two_pow (k : Nat) (h : k < 4) : 0 < 2 ^ k ∧ 2 ^ k ≤ 8 := by
  match k, h with
  | 0, _ => decide
  | 1, _ => decide
  | 2, _ => decide
  | 3, _ => decide
theorem wrap_in {x : Int} (h : inB x) : IntKind.i64.wrap x = x := IntWalk.i64_in _ (by have := h.1; have := h.2; omega)
/-- the store of Stored: beyond memory -/
theorem sstep_out (b k : Nat) (at' v : Int) (hk : SOk k) (hat : inB at') (T : TypeId) (w : World) (hm : IsM T b (smem k) (reg2 at' v) 0 w) (hh : holdsB at' (2 ^ k : Nat) = false) :
    Calls Tryz.prog 48 #[.pointer (some ⟨b, 0, none⟩)] w fun e w' => e = .returned (evV 3 at') ∧ IsM T b (smem k) (reg2 at' v) 0 w' ∧ Kept b w w' := by
  refine step_word b 0 _ 3 at' w hm (by decide) hk.ls (by rw [hk.ws]; exact hk.ds) (fun w2 h2 => ?_)
  refine do_S b (50 + k) 2 3 0 _ at' 3 at' w2 h2 (by decide) (by decide) hk.vs hk.ks (by rw [reg2_2, Int.add_zero]; exact wrap_in hat) (fun w3 h3 => ?_)
  exact store_out b _ at' _ w3 h3 (by rw [← hk.zs] at hh; exact hh)
/-- within -/
theorem sstep_in (b k a : Nat) (v : Int) (hk : SOk k) (T : TypeId) (w : World) (hm : IsM T b (smem k) (reg2 a v) 0 w) (ha : a + 2 ^ k ≤ 4096) :
    Calls Tryz.prog 48 #[.pointer (some ⟨b, 0, none⟩)] w fun e w' => e = .returned (evV 0 0) ∧ IsM T b (mput (smem k) a (Pn.bytN (2 ^ k) v)) (reg2 a v) 4 w' ∧ Kept b w w' := by
  have hp : 0 < 2 ^ k := Nat.two_pow_pos k
  have ha' : a ≤ 4096 := by omega
  refine step_word b 0 _ 0 0 w hm (by decide) hk.ls (by rw [hk.ws]; exact hk.ds) (fun w2 h2 => ?_)
  refine do_S b (50 + k) 2 3 0 _ a 0 0 w2 h2 (by decide) (by decide) hk.vs hk.ks (by rw [reg2_2, Int.add_zero]; exact wrap_in ⟨by omega, by omega⟩) (fun w3 h3 => ?_)
  have h := store_in b a (50 + k) 3 2 0 (((0 : Nat) : Int) + 4) w3 h3 (by rw [hk.zs]; exact ha) (by decide)
  rw [hk.zs, reg2_3] at h
  exact h
theorem lstep (b k a : Nat) (v : Int) (hk : SOk k) (T : TypeId) (w : World) (hm : IsM T b (mput (smem k) a (Pn.bytN (2 ^ k) v)) (reg2 a v) 4 w) (h8 : 8 ≤ a) (ha : a + 2 ^ k ≤ 4096) :
    Calls Tryz.prog 48 #[.pointer (some ⟨b, 0, none⟩)] w fun e w' => e = .returned (evV 0 0) ∧ IsM T b (mput (smem k) a (Pn.bytN (2 ^ k) v)) (rset (reg2 a v) 4 (Pn.sgP (42 + k : Nat) (IntKind.i64.wrap (v % 2 ^ (8 * 2 ^ k))))) 8 w' ∧ Kept b w w' := by
  have hp : 0 < 2 ^ k := Nat.two_pow_pos k
  have hl : (smem k).length = 4096 := by unfold smem; rw [mput_len (by rw [zlen, List.length_append, Pn.bytN_len, Pn.bytN_len]; decide)]; exact zlen
  have ha' : a ≤ 4096 := by omega
  have e1 : byt (mput (smem k) a (Pn.bytN (2 ^ k) v)) 4 2 = byt (smem k) 4 2 := byt_far _ _ _ _ _ (by omega) (by omega)
  have e2 : rdP (mput (smem k) a (Pn.bytN (2 ^ k) v)) 4 4 = rdP (smem k) 4 4 := by unfold rdP; rw [byt_far _ _ _ _ _ (by omega) (by omega)]
  have e3 : rdP (mput (smem k) a (Pn.bytN (2 ^ k) v)) a (2 ^ k) = IntKind.i64.wrap (v % 2 ^ (8 * 2 ^ k)) := by
    unfold rdP
    have := byt_near (smem k) a (Pn.bytN (2 ^ k) v) (by omega)
    rw [Pn.bytN_len] at this
    rw [this, Pn.numN_bytN]
  refine step_word b 4 _ 0 0 w hm (by decide) (by rw [e1]; exact hk.ll) (by rw [e2, hk.wl]; exact hk.dl) (fun w2 h2 => ?_)
  refine do_L b (42 + k) 2 4 0 _ a 0 0 w2 h2 (by decide) ?_ hk.vl hk.kl (by rw [reg2_2, Int.add_zero]; exact wrap_in ⟨by omega, by omega⟩) (fun w3 h3 => ?_)
  · intro h
    have h1 : (42 + k : Nat) = 49 := by omega
    have h2 := hk.zl
    rw [h1] at h2
    have : k = 7 := by omega
    subst this
    revert h2; decide
  have h := load_in b a (42 + k) 4 2 0 0 (((4 : Nat) : Int) + 4) w3 h3 (by rw [hk.zl]; exact ha) (by decide)
  rw [hk.zl, e3] at h
  exact h
end Go.Proofs.YtbmcofdodfcnnaaGreatDoor

namespace Go.Proofs.YtbmcofdodfcnnaaGreatDoor
open Go.RowKit
theorem want0 (v : Int) : Pn.sgP ((42 + 0 : Nat) : Int) (IntKind.i64.wrap (v % 2 ^ (8 * 2 ^ 0))) = wrap64 (v * 72057594037927936) / 72057594037927936 := by
  have e : (2 : Int) ^ (8 * 2 ^ 0) = 256 := by decide
  rw [e, wrap64_eq, IntKind.wrap_i64, IntKind.wrap_i64]
  unfold Pn.sgP
  rw [if_pos (by decide)]
  simp [IntKind.wrap, IntKind.bits, IntKind.signed]
  split <;> omega
theorem want1 (v : Int) : Pn.sgP ((42 + 1 : Nat) : Int) (IntKind.i64.wrap (v % 2 ^ (8 * 2 ^ 1))) = wrap64 (v * 281474976710656) / 281474976710656 := by
  have e : (2 : Int) ^ (8 * 2 ^ 1) = 65536 := by decide
  rw [e, wrap64_eq, IntKind.wrap_i64, IntKind.wrap_i64]
  unfold Pn.sgP
  rw [if_neg (by decide), if_pos (by decide)]
  simp [IntKind.wrap, IntKind.bits, IntKind.signed]
  split <;> omega
theorem want2 (v : Int) : Pn.sgP ((42 + 2 : Nat) : Int) (IntKind.i64.wrap (v % 2 ^ (8 * 2 ^ 2))) = wrap64 (v * 4294967296) / 4294967296 := by
  have e : (2 : Int) ^ (8 * 2 ^ 2) = 4294967296 := by decide
  rw [e, wrap64_eq, IntKind.wrap_i64, IntKind.wrap_i64]
  unfold Pn.sgP
  rw [if_neg (by decide), if_neg (by decide), if_pos (by decide)]
  rw [IntKind.wrap_i32]
  omega
theorem want3a (v : Int) (h : inB v) : Pn.sgP ((42 + 3 : Nat) : Int) (IntKind.i64.wrap (v % 2 ^ (8 * 2 ^ 3))) = v := by
  have e : (2 : Int) ^ (8 * 2 ^ 3) = 18446744073709551616 := by decide
  rw [e, IntKind.wrap_i64]
  unfold Pn.sgP
  rw [if_neg (by decide), if_neg (by decide), if_neg (by decide)]
  have h0 := h.1
  have h1 := h.2
  omega
theorem want3 (v : Int) (h : inB v) : Pn.sgP ((42 + 3 : Nat) : Int) (IntKind.i64.wrap (v % 2 ^ (8 * 2 ^ 3))) = wrap64 v := by
  rw [want3a v h, wrap64_eq, wrap_in h]
end Go.Proofs.YtbmcofdodfcnnaaGreatDoor
