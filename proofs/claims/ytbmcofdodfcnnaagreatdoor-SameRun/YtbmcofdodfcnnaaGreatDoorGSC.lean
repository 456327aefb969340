import Derived.Test.YtbmcofdodfcnnaaGreatDoorGSA
import Derived.Test.YtbmcofdodfcnnaaGreatDoorGXA
import Derived.Deep.LoopGhost
import Derived.Deep.DeepCutAuto
import Derived.Deep.CutBlock
import Derived.Lib.QuietBelow
namespace Pn
open Go
structure Sta where
  kind : Nat
  ins : Ins
  tg : Nat
def nmL (k : Nat) : List UInt8 := 110 :: Lib.itoa k
def staT (x : Sta) : List UInt8 :=
  if x.kind = 0 then (row (x.ins.op - 1).toNat).name ++ 32 :: regL x.ins.rs1 ++ [44, 32] ++ regL x.ins.rs2 ++ [44, 32] ++ nmL x.tg
  else if x.kind = 1 then [106, 32] ++ nmL x.tg
  else if x.kind = 2 then [108, 105, 32] ++ regL x.ins.rd ++ [44, 32] ++ Lib.itoa x.ins.imm
  else showL (x.ins.op - 1).toNat x.ins.rd x.ins.rs1 x.ins.rs2 x.ins.imm
def plainOps : List Nat := [0, 1, 2, 3, 4, 5, 6, 7, 8, 9, 10, 11, 12, 13, 14, 15, 16, 17, 18, 19, 20, 21, 22, 23, 24, 27, 28, 29, 30, 31, 32, 33, 34, 35, 36, 37, 41, 42, 43, 44, 45, 46, 47, 49, 50, 51, 52]
def regOk (r : Int) : Prop := 5 ≤ r ∧ r ≤ 15
def StaOk (n : Nat) (x : Sta) : Prop :=
  (x.kind = 0 ∧ (∃ k : Nat, x.ins.op = (k : Int) + 54 ∧ k < 6) ∧ regOk x.ins.rs1 ∧ (x.ins.rs2 = 0 ∨ regOk x.ins.rs2) ∧ x.tg ≤ n) ∨
  (x.kind = 1 ∧ x.tg ≤ n) ∨
  (x.kind = 2 ∧ regOk x.ins.rd ∧ -2147483648 ≤ x.ins.imm ∧ x.ins.imm < 2147483648) ∨
  (x.kind = 3 ∧ (∃ k : Nat, k ∈ plainOps ∧ x.ins.op = (k : Int) + 1) ∧ right x.ins = true ∧
    (x.ins.rd = 0 ∨ regOk x.ins.rd) ∧ (((row (x.ins.op - 1).toNat).kind = 76 ∨ (row (x.ins.op - 1).toNat).kind = 83) → x.ins.rs1 = 31 ∧ 0 ≤ x.ins.imm ∧ x.ins.imm < 2000) ∧
    (¬ ((row (x.ins.op - 1).toNat).kind = 76 ∨ (row (x.ins.op - 1).toNat).kind = 83) → regOk x.ins.rd ∧ regOk x.ins.rs1))
def bodyT (k : Nat) : List Sta → List UInt8
  | [] => []
  | x :: xs => nmL k ++ [58, 32] ++ staT x ++ [10] ++ bodyT (k + 1) xs
def progT (l : List Sta) : List UInt8 := [108, 105, 32, 120, 51, 49, 44, 32, 50, 48, 52, 56, 10] ++ bodyT 0 l ++ nmL l.length ++ [58, 32, 101, 98, 114, 101, 97, 107]
theorem bodyT_snoc : ∀ (l : List Sta) (k : Nat) (x : Sta), bodyT k (l ++ [x]) = bodyT k l ++ (nmL (k + l.length) ++ [58, 32] ++ staT x ++ [10])
  | [], k, x => by simp [bodyT]
  | y :: l, k, x => by
    rw [List.cons_append, bodyT, bodyT_snoc l (k + 1) x, bodyT, List.length_cons, show k + 1 + l.length = k + (l.length + 1) by omega]
    simp [List.append_assoc]
theorem itoa_31 : Lib.itoa 31 = [51, 49] := by
  have := Lib.decDigits_two (i := 31) (by omega) (by omega)
  unfold Lib.itoa
  rw [if_neg (by omega)]
  exact this.trans (by decide)
theorem ls_kind : ∀ k ∈ [41, 42, 43, 44, 45, 46, 47, 49, 50, 51, 52], k ∈ plainOps ∧ k < 64 ∧ (((row k).kind = 76 ∧ k < 48) ∨ ((row k).kind = 83 ∧ ¬ k < 48)) := by decide
theorem is_kind : ∀ k ∈ [28, 29, 30, 31, 32, 33, 37], k ∈ plainOps ∧ k < 64 ∧ (row k).kind = 73 := by decide
theorem sh_kind : ∀ k ∈ [34, 35, 36], k ∈ plainOps ∧ k < 64 ∧ (row k).kind = 72 := by decide
theorem rs_kind : ∀ k ∈ [0, 1, 2, 3, 4, 5, 6, 7, 8, 9, 10, 11, 13, 12, 14, 15, 16, 17, 18, 19, 20, 21, 22, 23, 24, 27], k ∈ plainOps ∧ k < 64 ∧ (row k).kind = 82 := by decide
def memS (k : Nat) (a n : Int) : Sta := if k < 48 then ⟨3, ⟨k + 1, a, 31, 0, n⟩, 0⟩ else ⟨3, ⟨k + 1, 0, 31, a, n⟩, 0⟩
theorem subone (k : Nat) : ((k : Int) + 1 - 1).toNat = k := by omega
theorem memS_text {k : Nat} (hk : k ∈ [41, 42, 43, 44, 45, 46, 47, 49, 50, 51, 52]) (a n : Int) : staT (memS k a n) = (row k).name ++ [32] ++ regL a ++ [44, 32] ++ Lib.itoa n ++ [40, 120, 51, 49, 41] := by
  obtain ⟨_, _, ⟨h1, h2⟩ | ⟨h1, h2⟩⟩ := ls_kind k hk
  · unfold memS; rw [if_pos h2]; simp [staT, showL, h1, behind, show regL 31 = [120, 51, 49] from by unfold regL; rw [itoa_31]]
  · unfold memS; rw [if_neg h2]; simp [staT, showL, h1, behind, show regL 31 = [120, 51, 49] from by unfold regL; rw [itoa_31]]
theorem memS_ok {k : Nat} (N : Nat) (hk : k ∈ [41, 42, 43, 44, 45, 46, 47, 49, 50, 51, 52]) {a n : Int} (ha : regOk a) (h0 : 0 ≤ n) (h1 : n < 2000) : StaOk N (memS k a n) := by
  obtain ⟨g1, g2, ⟨g3, g4⟩ | ⟨g3, g4⟩⟩ := ls_kind k hk <;> obtain ⟨a0, a1⟩ := ha
  · unfold memS; rw [if_pos g4]
    refine .inr (.inr (.inr ⟨rfl, ⟨k, g1, rfl⟩, ?_, .inr ⟨a0, a1⟩, fun _ => ⟨rfl, h0, h1⟩, fun h => absurd (.inl (by simp only [subone]; exact g3)) h⟩))
    rw [right_succ k _ _ _ _ g2, g3]
    simp [has, register, fitsImm, between]; omega
  · unfold memS; rw [if_neg g4]
    refine .inr (.inr (.inr ⟨rfl, ⟨k, g1, rfl⟩, ?_, .inl rfl, fun _ => ⟨rfl, h0, h1⟩, fun h => absurd (.inr (by simp only [subone]; exact g3)) h⟩))
    rw [right_succ k _ _ _ _ g2, g3]
    simp [has, register, fitsImm, between]; omega
theorem immS_text {k : Nat} (hk : (row k).kind = 73 ∨ (row k).kind = 72) (a b n : Int) : staT ⟨3, ⟨k + 1, a, b, 0, n⟩, 0⟩ = (row k).name ++ [32] ++ regL a ++ [44, 32] ++ regL b ++ [44, 32] ++ Lib.itoa n := by
  rcases hk with h1 | h1 <;> simp [staT, showL, h1, behind]
theorem regS_text {k : Nat} (hk : (row k).kind = 82) (a b c : Int) : staT ⟨3, ⟨k + 1, a, b, c, 0⟩, 0⟩ = (row k).name ++ [32] ++ regL a ++ [44, 32] ++ regL b ++ [44, 32] ++ regL c := by
  simp [staT, showL, hk, behind]
theorem plain_ok {k : Nat} (N : Nat) (h1 : k ∈ plainOps) (hk : (row k).kind = 73 ∨ (row k).kind = 72 ∨ (row k).kind = 82) {a b c n : Int} (ha : regOk a) (hb : regOk b) (hr : right ⟨k + 1, a, b, c, n⟩ = true) : StaOk N ⟨3, ⟨k + 1, a, b, c, n⟩, 0⟩ :=
  .inr (.inr (.inr ⟨rfl, ⟨k, h1, rfl⟩, hr, .inr ha, fun h => by simp only [subone] at h; omega, fun _ => ⟨ha, hb⟩⟩))
theorem isS_ok {k : Nat} (N : Nat) (hk : k ∈ [28, 29, 30, 31, 32, 33, 37]) {a b n : Int} (ha : regOk a) (hb : regOk b) (h0 : -2048 ≤ n) (h1 : n < 2048) : StaOk N ⟨3, ⟨k + 1, a, b, 0, n⟩, 0⟩ := by
  obtain ⟨g1, g2, g3⟩ := is_kind k hk
  refine plain_ok N g1 (.inl g3) ha hb ?_
  obtain ⟨a0, a1⟩ := ha
  obtain ⟨b0, b1⟩ := hb
  rw [right_succ k _ _ _ _ g2, g3]
  simp [has, register, fitsImm, between]; omega
theorem shS_ok {k : Nat} (N : Nat) (hk : k ∈ [34, 35, 36]) {a b n : Int} (ha : regOk a) (hb : regOk b) (h0 : 0 ≤ n) (h1 : n < 64) : StaOk N ⟨3, ⟨k + 1, a, b, 0, n⟩, 0⟩ := by
  obtain ⟨g1, g2, g3⟩ := sh_kind k hk
  refine plain_ok N g1 (.inr (.inl g3)) ha hb ?_
  obtain ⟨a0, a1⟩ := ha
  obtain ⟨b0, b1⟩ := hb
  rw [right_succ k _ _ _ _ g2, g3]
  simp [has, register, fitsImm, between]; omega
theorem rsS_ok {k : Nat} (N : Nat) (hk : k ∈ [0, 1, 2, 3, 4, 5, 6, 7, 8, 9, 10, 11, 13, 12, 14, 15, 16, 17, 18, 19, 20, 21, 22, 23, 24, 27]) {a b c : Int} (ha : regOk a) (hb : regOk b) (hc : c = 0 ∨ regOk c) : StaOk N ⟨3, ⟨k + 1, a, b, c, 0⟩, 0⟩ := by
  obtain ⟨g1, g2, g3⟩ := rs_kind k hk
  refine plain_ok N g1 (.inr (.inr g3)) ha hb ?_
  have hc' : 0 ≤ c ∧ c ≤ 31 := by rcases hc with e | ⟨e1, e2⟩ <;> omega
  obtain ⟨a0, a1⟩ := ha
  obtain ⟨b0, b1⟩ := hb
  rw [right_succ k _ _ _ _ g2, g3]
  simp [has, register, fitsImm, between]; omega
theorem brS_ok {N ro tg : Nat} {a c : Int} (h : ro < 6) (ha : regOk a) (hc : c = 0 ∨ regOk c) (ht : tg ≤ N) : StaOk N ⟨0, ⟨(ro : Int) + 54, 0, a, c, 0⟩, tg⟩ := .inl ⟨rfl, ⟨ro, rfl, h⟩, ha, hc, ht⟩
theorem brS_text (ro tg : Nat) (a c : Int) : staT ⟨0, ⟨(ro : Int) + 54, 0, a, c, 0⟩, tg⟩ = (row (ro + 53)).name ++ [32] ++ regL a ++ [44, 32] ++ regL c ++ [44, 32] ++ nmL tg := by
  have e : ((ro : Int) + 54 - 1).toNat = ro + 53 := by omega
  simp [staT, e]
theorem jS_text (tg : Nat) : staT ⟨1, ⟨0, 0, 0, 0, 0⟩, tg⟩ = [106, 32] ++ nmL tg := by simp [staT]
theorem liS_text (a n : Int) : staT ⟨2, ⟨0, a, 0, 0, n⟩, 0⟩ = [108, 105, 32] ++ regL a ++ [44, 32] ++ Lib.itoa n := by simp [staT]
end Pn
namespace Go.Proofs.YtbmcofdodfcnnaaGreatDoor
open Go.RowKit
structure RawL where
  kind : Int
  op : Int
  a : Int
  b : Int
  c : Int
  n : Int
def rawC (x : RawL) : List Value := [.int .i64 x.kind, .int .i64 x.op, .int .i64 x.a, .int .i64 x.b, .int .i64 x.c, .int .i64 x.n]
def RawOk (x : RawL) : Prop := inB x.op ∧ inB x.a ∧ inB x.b ∧ inB x.c ∧ inB x.n
def pickP (c : Int) (m : Nat) : Nat := ((if c < 0 then -(c + 1) else c).tmod m).toNat
theorem pickP_lt (c : Int) (m : Nat) (hm : 0 < m) : pickP c m < m := by
  unfold pickP
  obtain ⟨r, hr, hr2⟩ := Pn.tmod_bd (if c < 0 then -(c + 1) else c) m (by split <;> omega) hm
  rw [hr]
  simpa using hr2
theorem pick_at (c : Int) (m : Nat) (w : World) (hm : 0 < m) (hm2 : m ≤ 4294967296) (hc : inB c) :
    Calls Tryz.prog 26 #[.int .i64 c, .int .i64 m] w fun e w' => e = .returned (.int .i64 (pickP c m)) ∧ w' = w := by
  obtain ⟨c0, c1⟩ := hc
  have hm0 : ¬ (m : Int) = 0 := by omega
  unfold pickP
  by_cases h : c < 0
  · have h1 : wrap64 (c + 1) = c + 1 := by rw [wrap64_eq]; exact IntWalk.i64_in _ (by omega)
    have h2 : wrap64 (-(c + 1)) = -(c + 1) := by rw [wrap64_eq]; exact IntWalk.i64_in _ (by omega)
    obtain ⟨r, hr, hr2⟩ := Pn.tmod_bd (-(c + 1)) m (by omega) hm
    rw [if_pos h, hr]
    go_enter Tryz.func26, Tryz.ntmps26
    go_wp2
    go_ret
    exact ⟨rfl, rfl⟩
  · obtain ⟨r, hr, hr2⟩ := Pn.tmod_bd c m (by omega) hm
    rw [if_neg h, hr]
    go_enter Tryz.func26, Tryz.ntmps26
    go_wp2
    go_ret
    exact ⟨rfl, rfl⟩
def rsO : List Nat := [0, 1, 2, 3, 4, 5, 6, 7, 8, 9, 10, 11, 13, 12, 14, 15, 16, 17, 18, 19, 20, 21, 22, 23, 24, 27]
def isO : List Nat := [28, 29, 30, 31, 32, 33, 37]
def shO : List Nat := [34, 35, 36]
def bsO : List Nat := [53, 54, 55, 56, 57, 58]
def lsO : List Nat := [41, 42, 43, 44, 45, 46, 47, 49, 50, 51, 52]
def namesV (O : List Nat) : List Value := O.map fun k => .string ⟨(Pn.row k).name.toArray⟩
theorem names_at {O : List Nat} {r k : Nat} (h : O[r]? = some k) : (namesV O)[r]? = some (.string ⟨(Pn.row k).name.toArray⟩) := by unfold namesV; rw [List.getElem?_map, h]; rfl
structure Tables (w W : World) : Prop where
  b : Below w.heap.size w W
  rs : CellsAt w.heap.size (namesV rsO) W
  is : CellsAt (w.heap.size + 1) (namesV isO) W
  sh : CellsAt (w.heap.size + 1 + 1) (namesV shO) W
  bs : CellsAt (w.heap.size + 1 + 1 + 1) (namesV bsO) W
  ls : CellsAt (w.heap.size + 1 + 1 + 1 + 1) (namesV lsO) W
theorem Tables.next {w W W' : World} (h : Tables w W) (hB : Below W.heap.size W W') : Tables w W' := ⟨h.b.trans (hB.mono h.b.size), h.rs.next hB, h.is.next hB, h.sh.next hB, h.bs.next hB, h.ls.next hB⟩
theorem cells_new {w : World} {n : Nat} (h : w.heap.size = n) (vs : List Value) (t : TypeId) : CellsAt n vs (w.alloc (.cells vs.toArray t)) := h ▸ CellsAt.new w vs t
theorem tables_new (w : World) (t : TypeId) : Tables w (((((w.alloc (.cells (namesV rsO).toArray t)).alloc (.cells (namesV isO).toArray t)).alloc (.cells (namesV shO).toArray t)).alloc (.cells (namesV bsO).toArray t)).alloc (.cells (namesV lsO).toArray t)) :=
  ⟨(((((Below.refl _ _).alloc (by simp) _).alloc (by simp) _).alloc (by simp; omega) _).alloc (by simp; omega) _).alloc (by simp; omega) _,
    ((((CellsAt.new w _ t).alloc _).alloc _).alloc _).alloc _,
    (((cells_new (by simp) _ t).alloc _).alloc _).alloc _,
    ((cells_new (by simp) _ t).alloc _).alloc _,
    (cells_new (by simp) _ t).alloc _, cells_new (by simp) _ t⟩
theorem pick_any (c : Int) (m : Nat) (w : World) (hm : 0 < m) (hm2 : m ≤ 4294967296) (hc : inB c) :
    Calls Tryz.prog 26 #[.int .i64 c, .int .i64 m] w fun e w' => (∃ r : Nat, e = .returned (.int .i64 r) ∧ r < m) ∧ w' = w :=
  (pick_at c m w hm hm2 hc).mono fun _ _ h => ⟨⟨_, h.1, pickP_lt c m hm⟩, h.2⟩
def RegT (s : ByteArray) (r : Int) : Prop := s.size ≤ 22 ∧ s.data.toList = Pn.regL r
theorem regT_new {q : ByteArray} {n : Int} (h : q.size ≤ 21) (e : q.data.toList = Lib.itoa n) : RegT (⟨#[120]⟩ ++ q) n := by
  refine ⟨by rw [ByteArray.size_append]; have : (⟨#[120]⟩ : ByteArray).size = 1 := rfl; omega, ?_⟩
  simp [Pn.regL, e]
theorem regT_zero : RegT ⟨#[120, 48]⟩ 0 := ⟨by decide, by unfold Pn.regL Lib.itoa; simp [Lib.decDigits]⟩
def NmT (s : ByteArray) (k : Nat) : Prop := s.size ≤ 22 ∧ s.data.toList = Pn.nmL k
theorem nmT_new {q : ByteArray} {n : Nat} (h : q.size ≤ 21) (e : q.data.toList = Lib.itoa n) : NmT (⟨#[110]⟩ ++ q) n := by
  refine ⟨by rw [ByteArray.size_append]; have : (⟨#[110]⟩ : ByteArray).size = 1 := rfl; omega, ?_⟩
  simp [Pn.nmL, e]
theorem pick_one (c : Int) (m : Nat) (w : World) (hm2 : m ≤ 4294967295) (hc : inB c) :
    Calls Tryz.prog 26 #[.int .i64 c, .int .i64 ((m : Int) + 1)] w fun e w' => (∃ r : Nat, e = .returned (.int .i64 r) ∧ r < m + 1) ∧ w' = w := by
  have h := pick_any c (m + 1) w (by omega) (by omega) hc
  rwa [show ((m + 1 : Nat) : Int) = (m : Int) + 1 by omega] at h
theorem world_as {P G : World → Prop} (W : World) (hP : P W) (h : ∀ W, P W → G W) : G W := h W hP
theorem bs_at : ∀ r, r < 6 → bsO[r]? = some (r + 53) := by decide
theorem at_mem {O : List Nat} {r : Nat} (h : r < O.length) : ∃ k, O[r]? = some k ∧ k ∈ O := ⟨O[r], List.getElem?_eq_getElem h, List.getElem_mem h⟩
theorem pick_b (c : Int) (m : Nat) (w : World) (hm : 0 < m) (hm2 : m ≤ 4294967296) (hc : inB c) :
    Calls Tryz.prog 26 #[.int .i64 c, .int .i64 m] w fun e w' => e = .returned (.int .i64 (pickP c m)) ∧ Below w.heap.size w w' := (pick_at c m w hm hm2 hc).mono fun _ _ ⟨h1, h2⟩ => ⟨h1, h2 ▸ Below.refl _ _⟩
theorem itoa_b (n : Int) (w : World) (h0 : -9223372036854775808 ≤ n) (h1 : n ≤ 9223372036854775807) (hE : Env w) :
    Calls Tryz.prog 43 #[.int .i64 n] w fun e w' => e = .returned (.string ⟨(Lib.itoa n).toArray⟩) ∧ Below w.heap.size w w' := by
  refine (Tryz.strconv_Itoa n h0 h1 w hE.2.1).mono ?_
  rintro e w' ⟨rfl, k, os, rfl⟩
  exact ⟨rfl, below_grow _ _ _⟩
theorem itoa_sz (n : Int) (h0 : -9223372036854775808 ≤ n) (h1 : n ≤ 9223372036854775807) : (⟨(Lib.itoa n).toArray⟩ : ByteArray).size ≤ 21 := by
  have := Lib.itoa_length_le n h0 h1
  simpa [ByteArray.size] using this
def OpT (s : ByteArray) (k : Nat) : Prop := s.size ≤ 8 ∧ s.data.toList = (Pn.row k).name
theorem opT_at (k : Nat) (h : k < 64) : OpT ⟨(Pn.row k).name.toArray⟩ k := ⟨by rw [sz_mk]; exact Pn.row_name k h, rfl⟩
theorem inB_div {x : Int} (h : inB x) : inB (x.tdiv 3) := by
  obtain ⟨h0, h1⟩ := h
  unfold inB
  rcases Int.le_total 0 x with hx | hx
  · rw [Int.tdiv_eq_ediv_of_nonneg hx]
    omega
  · obtain ⟨y, rfl⟩ : ∃ y, x = -y := ⟨-x, by omega⟩
    rw [Int.neg_tdiv, Int.tdiv_eq_ediv_of_nonneg (by omega)]
    omega
end Go.Proofs.YtbmcofdodfcnnaaGreatDoor
namespace Go.Proofs.YtbmcofdodfcnnaaGreatDoor
open Go.RowKit
set_option maxRecDepth 100000 in
set_option maxHeartbeats 8000000 in
theorem program_nil (a0 : Option Addr) (cap : Nat) (w : World) (hE : Env w) :
    Calls Tryz.prog 22 #[.slice a0 0 cap] w fun e w' => ∃ (ps : List Pn.Sta) (s : ByteArray), e = .returned (.string s) ∧ ps.length ≤ 24 ∧ (∀ x ∈ ps, Pn.StaOk ps.length x) ∧ s.data.toList = Pn.progT ps ∧ Below w.heap.size w w' := by
  have HE := hid hE
  clear hE
  go_enter Tryz.func22, Tryz.ntmps22
  go_upto_if 24 with fail
  refine world_as (P := Tables w) (G := fun W => Code.wp _ _ _ _ W) _ (tables_new w 9) ?_
  intro W0 hT0
  go_wp2_with fail
  go_loopg [8, 10] 0 (fun g p q wr => g = 0 ∧ p = .string ⟨#[108, 105, 32, 120, 51, 49, 44, 32, 50, 48, 52, 56, 10]⟩ ∧ q = .int .i64 0 ∧ Tables w wr)
  case atStart => exact ⟨rfl, rfl, rfl, hT0⟩
  case round =>
    obtain ⟨_, rfl, rfl, hT⟩ := hrel
    generalize hS : (⟨#[108, 105, 32, 120, 51, 49, 44, 32, 50, 48, 52, 56, 10]⟩ : ByteArray) = s at *
    have hsz : s.size = 13 := by rw [← hS]; rfl
    have HS := hid hS
    clear hS
    go_wp2_with fail
    refine (itoa_is (0 : Nat) _ (by omega) (by omega) (HE.out.below hT.b HE.out.1)).mono ?_
    rintro e w4 ⟨qk, rfl, hqk, HQ, hB2⟩
    have HT := hid (hT.next hB2)
    have HNK := hid (nmT_new hqk HQ.out)
    have u1 : ¬ (9223372036854775807 : Int) < s.size + 1 + qk.size := by omega
    have u2 : ¬ 9223372036854775807 < s.size + 1 + qk.size := by omega
    have u3 : ¬ (9223372036854775807 : Int) < s.size + 1 + qk.size + 8 := by omega
    have u4 : ¬ 9223372036854775807 < s.size + 1 + qk.size + 8 := by omega
    clear hB2 HQ
    go_wp2_with fail
    go_ret
    refine ⟨[], _, rfl, by simp, (fun x hx => by cases hx), ?_, HT.out.b⟩
    unfold Pn.progT
    rw [List.length_nil, ← HNK.out.2, ← HS.out]
    simp [Pn.bodyT]
end Go.Proofs.YtbmcofdodfcnnaaGreatDoor
