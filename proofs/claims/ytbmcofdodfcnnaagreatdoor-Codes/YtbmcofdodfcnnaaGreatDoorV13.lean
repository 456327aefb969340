import Derived.Test.YtbmcofdodfcnnaaGreatDoorVF
import Derived.Test.YtbmcofdodfcnnaaGreatDoorPF
import Derived.Test.YtbmcofdodfcnnaaGreatDoorK3
namespace Go.Proofs.YtbmcofdodfcnnaaGreatDoor
open Go.RowKit

theorem isLetter_is (r : Int) (w : World) : Calls Tryz.prog 185 #[.int .i32 r] w fun e w' => e = .returned (.bool (Pn.smallB r)) ∧ w' = w := by
  go_enter Tryz.func185, Tryz.ntmps185
  go_wp2
  all_goals
    go_ret
    refine ⟨ret_val ?_, rfl⟩
    unfold Pn.smallB
    first
    | (rw [decide_eq_true (p := 97 ≤ r) (by omega)]; rfl)
    | (rw [decide_eq_false (p := 97 ≤ r) (by omega)]; rfl)
theorem isDigit_is (r : Int) (w : World) : Calls Tryz.prog 186 #[.int .i32 r] w fun e w' => e = .returned (.bool (Pn.digitB r)) ∧ w' = w := by
  go_enter Tryz.func186, Tryz.ntmps186
  go_wp2
  all_goals
    go_ret
    refine ⟨ret_val ?_, rfl⟩
    unfold Pn.digitB
    first
    | (rw [decide_eq_true (p := 48 ≤ r) (by omega)]; rfl)
    | (rw [decide_eq_false (p := 48 ≤ r) (by omega)]; rfl)

theorem isInt_is (t : ByteArray) (w : World) : Calls Tryz.prog 187 #[.string t] w fun e w' => e = .returned (.bool (Pn.isInt t.data.toList)) ∧ w' = w := by
  go_enter Tryz.func187, Tryz.ntmps187
  go_wp2_with fail
  refine (Tryz.strings_TrimPrefix t ⟨#[45]⟩ w).mono ?_
  rintro e w1 ⟨rfl, rfl⟩
  go_wp2_with fail
  all_goals
    go_ret
    refine ⟨ret_val (congrArg Value.bool ?_), rfl⟩
    unfold Pn.isInt
    first
    | (rw [decide_eq_true (p := 1 ≤ (Lib.trimPrefix t.data.toList [45]).length) (by omega), Bool.true_and]; exact decide_eq_decide.2 (by omega))
    | (rw [decide_eq_false (p := 1 ≤ (Lib.trimPrefix t.data.toList [45]).length) (by omega), Bool.false_and])

theorem goesOn_is (c : Nat) (k f r : Int) (L : ByteArray) (v : Value) (w : World) (hC : CellsAt c [.string L, v, .int .i64 k, .int .i64 f] w) :
    Calls Tryz.prog 132 #[.pointer (some ⟨c, 0, none⟩), .int .i32 r] w fun e w' => e = .returned (.bool (Pn.goes k r)) ∧ w' = w := by
  obtain ⟨_, _, cc⟩ := hC
  have c2 := cc 2 _ rfl
  clear cc
  go_enter Tryz.func132, Tryz.ntmps132
  go_wp2_with (first
    | (go_at_call 185; refine (isLetter_is _ _).mono ?_; rintro e w' ⟨rfl, rfl⟩)
    | (go_at_call 186; refine (isDigit_is _ _).mono ?_; rintro e w' ⟨rfl, rfl⟩))
  all_goals
    go_ret
    refine ⟨ret_val (congrArg Value.bool ?_), rfl⟩
    simp_all [Pn.goes]

set_option maxHeartbeats 2000000 in
theorem begin_is (c : Nat) (k f at' r : Int) (L : ByteArray) (ao : Option Addr) (ln cp : Nat) (w : World) (hC : CellsAt c [.string L, .slice ao ln cp, .int .i64 k, .int .i64 f] w) :
    Calls Tryz.prog 134 #[.pointer (some ⟨c, 0, none⟩), .int .i64 at', .int .i32 r] w fun e w' => e = .returned (.bool (Pn.beg r).isSome) ∧ (∀ k', Pn.beg r = some k' → w' = (w.setCell ⟨c, 3, none⟩ (.int .i64 at')).setCell ⟨c, 2, none⟩ (.int .i64 k')) ∧ (Pn.beg r = none → w' = w.setCell ⟨c, 3, none⟩ (.int .i64 at')) := by
  obtain ⟨hz, cf, cc⟩ := hC
  have c2 := cc 2 _ rfl
  have c3 := cc 3 _ rfl
  clear cc
  go_enter Tryz.func134, Tryz.ntmps134
  go_wp2_with (first
    | (go_at_call 185; refine (isLetter_is _ _).mono ?_; rintro e w' ⟨rfl, rfl⟩)
    | (go_at_call 186; refine (isDigit_is _ _).mono ?_; rintro e w' ⟨rfl, rfl⟩))
  all_goals
    first
    | (have hb : Pn.beg r = some 1 := (by simp_all [Pn.beg])
       go_ret
       rw [hb]
       exact ⟨rfl, fun k' e => (by cases e; rfl), fun e => (by cases e)⟩)
    | (have hb : Pn.beg r = some 2 := (by simp_all [Pn.beg])
       go_ret
       rw [hb]
       exact ⟨rfl, fun k' e => (by cases e; rfl), fun e => (by cases e)⟩)
    | (have hb : Pn.beg r = some 3 := (by simp_all [Pn.beg])
       go_ret
       rw [hb]
       exact ⟨rfl, fun k' e => (by cases e; rfl), fun e => (by cases e)⟩)
    | (have hb : Pn.beg r = some 0 := (by simp_all [Pn.beg])
       go_ret
       rw [hb]
       exact ⟨rfl, fun k' e => (by cases e; rfl), fun e => (by cases e)⟩)
    | (have hb : Pn.beg r = none := (by simp_all [Pn.beg])
       go_ret
       rw [hb]
       exact ⟨rfl, fun k' e => (by cases e), fun _ => rfl⟩)

/-- what stands when a piece has been put behind the others -/
def EndOut (c : Nat) (L : ByteArray) (v : Value) (n : Nat) (xs : List Value) (k : Int) (f a base : Nat) (w w' : World) : Prop :=
  ∃ v', CellsAt c [.string L, v', .int .i64 k, .int .i64 f] w' ∧ w'.ownsRow base 131 2 v' (n + 1) (xs ++ [.int .i64 k, .string (L.extract f a)]) ∧
    (∀ b, b < w.heap.size → v.ownBlock ≠ some b → v'.ownBlock ≠ some b) ∧ Keeps c v.ownBlock w w'
theorem end_out {c f a n base gg cap : Nat} {k : Int} {L : ByteArray} {v : Value} {xs : List Value} {w W w9 : World} {o : Obj} (hB : Below w.heap.size w W) (hsz : W.heap.size = w.heap.size + 1) (hC : CellsAt c [.string L, v, .int .i64 k, .int .i64 f] W)
    (hne : v.ownBlock ≠ some c) (hz : c < w.heap.size) (hgrow : (W.alloc o).drew.grownBy w9 v.ownBlock) (hat : v.ownBlock = some gg ∨ gg = W.heap.size + 1)
    (hown : w9.ownsRow base 131 2 (.slice (some ⟨gg, 0, none⟩) (n + 1) cap) (n + 1) (xs ++ [.int .i64 k, .string (L.extract f a)])) :
    EndOut c L v n xs k f a base w (w9.setCell ⟨c, 1, none⟩ (.slice (some ⟨gg, 0, none⟩) (n + 1) cap)) := by
  have hgc : gg ≠ c := by
    rcases hat with h | h
    · exact fun e => hne (by rw [h, e])
    · omega
  have hk1 : Keeps c v.ownBlock w (W.alloc o).drew := Keeps.of_below (hB.trans ((((Below.refl W.heap.size W).alloc (Nat.le_refl _) o).drew).mono hB.size))
  have hk2 : Keeps c v.ownBlock (W.alloc o).drew w9 := Keeps.of_grown hgrow
  have hC2 : CellsAt c [.string L, v, .int .i64 k, .int .i64 f] (W.alloc o).drew := hC.next (((Below.refl W.heap.size W).alloc (Nat.le_refl _) o).drew)
  have hC9 : CellsAt c [.string L, v, .int .i64 k, .int .i64 f] w9 := by
    have e := hgrow.block c hC2.1 (fun e => hne e.symm)
    exact ⟨Nat.lt_of_lt_of_le hC2.1 hgrow.size, fun q => (World.frozen?_of_block (a := ⟨c, q, none⟩) e).trans (hC2.2.1 q), fun j u hj => (World.cell?_of_block (a := ⟨c, j, none⟩) e).trans (hC2.2.2 j u hj)⟩
  refine ⟨_, hC9.set 1 _ (by simp), ownsRow_of_block hown (fun g hg => ?_), fun b hb hv => ?_, (hk1.trans hk2).trans (Keeps.setCell c _ w9 1 _)⟩
  · have : gg = g := by simpa [Value.ownBlock] using hg
    subst this
    exact Below.heap_setCell _ _ _ _ (fun e => hgc e)
  · show some gg ≠ some b
    intro e
    have e' : gg = b := by simpa using e
    rcases hat with h | h
    · exact hv (by rw [h, e'])
    · omega
theorem infoPiece : (Tryz.prog.info? 131).map (fun i => (i.zero, i.size, i.bytes)) = some (some (.agg #[.int .i64 0, .string ⟨#[]⟩]), 2, 24) := by kernel_rfl
theorem end_zero (c : Nat) (a f : Int) (L : ByteArray) (v : Value) (w : World) (hC : CellsAt c [.string L, v, .int .i64 0, .int .i64 f] w) :
    Calls Tryz.prog 133 #[.pointer (some ⟨c, 0, none⟩), .int .i64 a] w fun e w' => e = .returned (.bool true) ∧ w' = w := by
  obtain ⟨hz, cf, cc⟩ := hC
  have c2 := cc 2 _ rfl
  clear cc
  go_enter Tryz.func133, Tryz.ntmps133
  go_wp2_with fail
  go_ret
  exact ⟨rfl, rfl⟩

set_option maxRecDepth 100000 in
set_option maxHeartbeats 8000000 in
theorem end_more (c f a n base : Nat) (k : Int) (L : ByteArray) (v : Value) (xs : List Value) (w : World) (hk : (k == 0) = false) (hC : CellsAt c [.string L, v, .int .i64 k, .int .i64 f] w) (hown : w.ownsRow base 131 2 v n xs)
    (hne : v.ownBlock ≠ some c) (hbase : base ≤ w.heap.size) (hf : f ≤ a) (ha : a ≤ L.size) (hL : L.size ≤ 2000) (hn : n ≤ 2000) :
    Calls Tryz.prog 133 #[.pointer (some ⟨c, 0, none⟩), .int .i64 a] w fun e w' => e = .returned (.bool (Pn.endOk k (L.extract f a).data.toList)) ∧ EndOut c L v n xs k f a base w w' := by
  obtain ⟨i0, hi, hz0, hz1, hz2⟩ := info_parts infoPiece
  obtain ⟨hz, cf, cc⟩ := hC
  have c0 := cc 0 _ rfl
  have c1 := cc 1 _ rfl
  have c2 := cc 2 _ rfl
  have c3 := cc 3 _ rfl
  have HC := hide cc
  have HF := hide cf
  have HO := hide hown
  clear cc hown
  have f1 : (f : Int) ≤ a := by omega
  have a1 : (a : Int) ≤ L.size := by omega
  have a2 : (L.size : Int) ≤ 2000 := by omega
  have hcn : w.heap.size ≠ c := by omega
  go_enter Tryz.func133, Tryz.ntmps133
  go_wp2_with fail
  go_region_held3 (fun w' => w'.cell? ⟨c, 0, none⟩ = some (.string L) ∧ w'.cell? ⟨c, 2, none⟩ = some (.int .i64 k) ∧ w'.cell? ⟨c, 3, none⟩ = some (.int .i64 f)) (go_keep) (fail)
  go_wp2_with fail
  have w1 : (w.alloc (.cells #[.int .i64 k, .string (L.extract f a)] 131)).drew.cell? ⟨c, 1, none⟩ = some v := by go_simp
  have wf : (w.alloc (.cells #[.int .i64 k, .string (L.extract f a)] 131)).drew.frozen? ⟨c, 1, none⟩ = false := by go_simp
  have wp0 : (w.alloc (.cells #[.int .i64 k, .string (L.extract f a)] 131)).drew.cell? ⟨w.heap.size, 0, none⟩ = some (.int .i64 k) := by go_simp
  have wp1 : (w.alloc (.cells #[.int .i64 k, .string (L.extract f a)] 131)).drew.cell? ⟨w.heap.size, 1, none⟩ = some (.string (L.extract f a)) := by go_simp
  have wsz : (w.alloc (.cells #[.int .i64 k, .string (L.extract f a)] 131)).drew.heap.size = w.heap.size + 1 := by show (w.alloc _).heap.size = _; simp
  have HOW := hide ((HO.out.alloc (.cells #[.int .i64 k, .string (L.extract f a)] 131)).drew)
  have HBW : Hid (Below w.heap.size w (w.alloc (.cells #[.int .i64 k, .string (L.extract f a)] 131)).drew) := ((Below.refl _ _).alloc (Nat.le_refl _) _).drew
  have HCW : Hid (CellsAt c [.string L, v, .int .i64 k, .int .i64 f] (w.alloc (.cells #[.int .i64 k, .string (L.extract f a)] 131)).drew) := CellsAt.next ⟨hz, HF.out, HC.out⟩ HBW.out
  have hvP : v.ownBlock ≠ some w.heap.size := fun e => by have := (HO.out.lt _ e).2; omega
  clear c0 c1 c2 c3 cf
  generalize (w.alloc (.cells #[.int .i64 k, .string (L.extract f a)] 131)).drew = W at *
  have HSZ := hide wsz
  have hcW : c < W.heap.size := by omega
  have hpW : w.heap.size < W.heap.size := by omega
  have hbW : base ≤ W.heap.size := by omega
  clear wsz
  go_region_law
    ((refine step_append_lies _ (by rfl) _ _ _ (by rfl) base 131 i0 _ 2 24 Tryz.underlying125 hi hz0 hz1 hz2 rfl (by omega) v n xs (by rfl) ((HOW.out.alloc _).drew)
        ⟨W.heap.size, 0, none⟩ 1 1 [.int .i64 k, .string (L.extract f a)] (by rfl) (by rfl) (World.news_of_block (cs := #[.int .i64 k, .string (L.extract f a)]) (t := 131) (fr := (0, 0)) (heap_alloc_new W _)) (by simp [Value.oneCell'])
        (by omega) (by unfold maxLen; omega) (by omega) (by simp; omega) (W.heap.size + 1) (by simp) ?_; intro gg cap w9 hown9 hgrow hat hlt; have q1 : w9.cell? ⟨c, 1, none⟩ = some v := (hgrow.cell_far _ (by simp; omega) (Ne.symm hne)).trans (by simp [w1, World.cell?_alloc_some]); have qf : w9.frozen? ⟨c, 1, none⟩ = false := (hgrow.frozen_far _ (by simp; omega) (Ne.symm hne)).trans (by simp [wf, World.frozen?_alloc_old, Nat.ne_of_lt hcW])))
  all_goals
    have HEO := hide (end_out HBW.out HSZ.out HCW.out hne hz hgrow hat hown9)
    have x0 : (w9.setCell ⟨c, 1, none⟩ (.slice (some ⟨gg, 0, none⟩) (n + 1) cap)).cell? ⟨w.heap.size, 0, none⟩ = some (.int .i64 k) := (World.cell?_setCell_far _ _ _ _ (fun e => hcn e.symm)).trans ((hgrow.cell_far _ (by simp; omega) (Ne.symm hvP)).trans (by simp [wp0, World.cell?_alloc_some]))
    have x1 : (w9.setCell ⟨c, 1, none⟩ (.slice (some ⟨gg, 0, none⟩) (n + 1) cap)).cell? ⟨w.heap.size, 1, none⟩ = some (.string (L.extract f a)) := (World.cell?_setCell_far _ _ _ _ (fun e => hcn e.symm)).trans ((hgrow.cell_far _ (by simp; omega) (Ne.symm hvP)).trans (by simp [wp1, World.cell?_alloc_some]))
    generalize w9.setCell ⟨c, 1, none⟩ (.slice (some ⟨gg, 0, none⟩) (n + 1) cap) = Z at *
    by_cases h2 : (k != 2) = true
    · go_wp2_with fail
      go_ret
      refine ⟨ret_val (congrArg Value.bool ?_), HEO.out⟩
      unfold Pn.endOk
      rw [h2, Bool.true_or]
    · have h2' : (k != 2) = false := by simpa using h2
      clear h2
      go_wp2_with (go_at_call 187; refine (isInt_is _ _).mono ?_; rintro e w' ⟨rfl, rfl⟩)
      go_ret
      refine ⟨ret_val (congrArg Value.bool ?_), HEO.out⟩
      unfold Pn.endOk
      rw [h2', Bool.false_or]
      have e : (L.extract f a).data.toList = List.take (a - f) (List.drop f L.data.toList) := by simp [ByteArray.data_extract, Array.toList_extract, List.extract_eq_take_drop]
      rw [e]
end Go.Proofs.YtbmcofdodfcnnaaGreatDoor
