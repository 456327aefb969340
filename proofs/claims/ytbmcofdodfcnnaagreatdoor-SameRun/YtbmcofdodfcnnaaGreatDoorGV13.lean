import Derived.Test.YtbmcofdodfcnnaaGreatDoorVF
import Derived.Test.YtbmcofdodfcnnaaGreatDoorGQ
import Derived.Test.YtbmcofdodfcnnaaGreatDoorGK
import Derived.Lib.SmallJoins
namespace Go.Proofs.YtbmcofdodfcnnaaGreatDoor
open Go.RowKit
theorem isLetter_is (r : Int) (w : World) : Calls Tryz.prog 185 #[.int .i32 r] w fun e w' => e = .returned (.bool (Pn.smallB r)) ∧ w' = w := by
  go_enter Tryz.func185, Tryz.ntmps185
  go_wp2
  all_goals
    go_ret
    refine ⟨ret_val ?_, rfl⟩
    unfold Pn.smallB
    first
    | (rw [decide_eq_true (p := 97 ≤ r) (by omega)]; rfl)
    | (rw [decide_eq_false (p := 97 ≤ r) (by omega)]; rfl)
theorem isDigit_is (r : Int) (w : World) : Calls Tryz.prog 186 #[.int .i32 r] w fun e w' => e = .returned (.bool (Pn.digitB r)) ∧ w' = w := by
  go_enter Tryz.func186, Tryz.ntmps186
  go_wp2
  all_goals
    go_ret
    refine ⟨ret_val ?_, rfl⟩
    unfold Pn.digitB
    first
    | (rw [decide_eq_true (p := 48 ≤ r) (by omega)]; rfl)
    | (rw [decide_eq_false (p := 48 ≤ r) (by omega)]; rfl)
theorem isInt_is (t : ByteArray) (w : World) : Calls Tryz.prog 187 #[.string t] w fun e w' => e = .returned (.bool (Pn.isInt t.data.toList)) ∧ w' = w := by
  go_enter Tryz.func187, Tryz.ntmps187
  go_wp2_with fail
  refine (Tryz.strings_TrimPrefix t ⟨#[45]⟩ w).mono ?_
  rintro e w1 ⟨rfl, rfl⟩
  go_wp2_with fail
  all_goals
    go_ret
    refine ⟨ret_val (congrArg Value.bool ?_), rfl⟩
    unfold Pn.isInt
    first
    | (rw [decide_eq_true (p := 1 ≤ (Lib.trimPrefix t.data.toList [45]).length) (by omega), Bool.true_and]; exact decide_eq_decide.2 (by omega))
    | (rw [decide_eq_false (p := 1 ≤ (Lib.trimPrefix t.data.toList [45]).length) (by omega), Bool.false_and])
theorem goesOn_is (c : Nat) (k f r : Int) (L : ByteArray) (v : Value) (w : World) (hC : CellsAt c [.string L, v, .int .i64 k, .int .i64 f] w) :
    Calls Tryz.prog 132 #[.pointer (some ⟨c, 0, none⟩), .int .i32 r] w fun e w' => e = .returned (.bool (Pn.goes k r)) ∧ w' = w := by
  obtain ⟨_, _, cc⟩ := hC
  have c2 := cc 2 _ rfl
  clear cc
  go_enter Tryz.func132, Tryz.ntmps132
  go_wp2_with (first
    | (go_at_call 185; refine (isLetter_is _ _).mono ?_; rintro e w' ⟨rfl, rfl⟩)
    | (go_at_call 186; refine (isDigit_is _ _).mono ?_; rintro e w' ⟨rfl, rfl⟩))
  all_goals
    go_ret
    refine ⟨ret_val (congrArg Value.bool ?_), rfl⟩
    simp_all [Pn.goes]
set_option maxHeartbeats 2000000 in
theorem begin_is (c : Nat) (k f at' r : Int) (L : ByteArray) (ao : Option Addr) (ln cp : Nat) (w : World) (hC : CellsAt c [.string L, .slice ao ln cp, .int .i64 k, .int .i64 f] w) :
    Calls Tryz.prog 134 #[.pointer (some ⟨c, 0, none⟩), .int .i64 at', .int .i32 r] w fun e w' => e = .returned (.bool (Pn.beg r).isSome) ∧ (∀ k', Pn.beg r = some k' → w' = (w.setCell ⟨c, 3, none⟩ (.int .i64 at')).setCell ⟨c, 2, none⟩ (.int .i64 k')) ∧ (Pn.beg r = none → w' = w.setCell ⟨c, 3, none⟩ (.int .i64 at')) := by
  obtain ⟨hz, cf, cc⟩ := hC
  have c2 := cc 2 _ rfl
  have c3 := cc 3 _ rfl
  clear cc
  go_enter Tryz.func134, Tryz.ntmps134
  go_wp2_with (first
    | (go_at_call 185; refine (isLetter_is _ _).mono ?_; rintro e w' ⟨rfl, rfl⟩)
    | (go_at_call 186; refine (isDigit_is _ _).mono ?_; rintro e w' ⟨rfl, rfl⟩))
  all_goals
    first
    | (have hb : Pn.beg r = some 1 := (by simp_all [Pn.beg])
       go_ret
       rw [hb]
       exact ⟨rfl, fun k' e => (by cases e; rfl), fun e => (by cases e)⟩)
    | (have hb : Pn.beg r = some 2 := (by simp_all [Pn.beg])
       go_ret
       rw [hb]
       exact ⟨rfl, fun k' e => (by cases e; rfl), fun e => (by cases e)⟩)
    | (have hb : Pn.beg r = some 3 := (by simp_all [Pn.beg])
       go_ret
       rw [hb]
       exact ⟨rfl, fun k' e => (by cases e; rfl), fun e => (by cases e)⟩)
    | (have hb : Pn.beg r = some 0 := (by simp_all [Pn.beg])
       go_ret
       rw [hb]
       exact ⟨rfl, fun k' e => (by cases e; rfl), fun e => (by cases e)⟩)
    | (have hb : Pn.beg r = none := (by simp_all [Pn.beg])
       go_ret
       rw [hb]
       exact ⟨rfl, fun k' e => (by cases e), fun _ => rfl⟩)
def EndOut (c : Nat) (L : ByteArray) (v : Value) (n : Nat) (xs : List Value) (k : Int) (f a base : Nat) (w w' : World) : Prop :=
  ∃ v', CellsAt c [.string L, v', .int .i64 k, .int .i64 f] w' ∧ w'.ownsRow base 131 2 v' (n + 1) (xs ++ [.int .i64 k, .string (L.extract f a)]) ∧
    (∀ b, b < w.heap.size → v.ownBlock ≠ some b → v'.ownBlock ≠ some b) ∧ Keeps c v.ownBlock w w'
theorem end_out {c f a n base gg cap : Nat} {k : Int} {L : ByteArray} {v : Value} {xs : List Value} {w W w9 : World} {o : Obj} (hB : Below w.heap.size w W) (hsz : W.heap.size = w.heap.size + 1) (hC : CellsAt c [.string L, v, .int .i64 k, .int .i64 f] W)
    (hne : v.ownBlock ≠ some c) (hz : c < w.heap.size) (hgrow : (W.alloc o).drew.grownBy w9 v.ownBlock) (hat : v.ownBlock = some gg ∨ gg = W.heap.size + 1)
    (hown : w9.ownsRow base 131 2 (.slice (some ⟨gg, 0, none⟩) (n + 1) cap) (n + 1) (xs ++ [.int .i64 k, .string (L.extract f a)])) :
    EndOut c L v n xs k f a base w (w9.setCell ⟨c, 1, none⟩ (.slice (some ⟨gg, 0, none⟩) (n + 1) cap)) := by
  have hgc : gg ≠ c := by
    rcases hat with h | h
    · exact fun e => hne (by rw [h, e])
    · omega
  have hk1 : Keeps c v.ownBlock w (W.alloc o).drew := Keeps.of_below (hB.trans ((((Below.refl W.heap.size W).alloc (Nat.le_refl _) o).drew).mono hB.size))
  have hk2 : Keeps c v.ownBlock (W.alloc o).drew w9 := Keeps.of_grown hgrow
  have hC2 : CellsAt c [.string L, v, .int .i64 k, .int .i64 f] (W.alloc o).drew := hC.next (((Below.refl W.heap.size W).alloc (Nat.le_refl _) o).drew)
  have hC9 : CellsAt c [.string L, v, .int .i64 k, .int .i64 f] w9 := by
    have e := hgrow.block c hC2.1 (fun e => hne e.symm)
    exact ⟨Nat.lt_of_lt_of_le hC2.1 hgrow.size, fun q => (World.frozen?_of_block (a := ⟨c, q, none⟩) e).trans (hC2.2.1 q), fun j u hj => (World.cell?_of_block (a := ⟨c, j, none⟩) e).trans (hC2.2.2 j u hj)⟩
  refine ⟨_, hC9.set 1 _ (by simp), ownsRow_of_block hown (fun g hg => ?_), fun b hb hv => ?_, (hk1.trans hk2).trans (Keeps.setCell c _ w9 1 _)⟩
  · have : gg = g := by simpa [Value.ownBlock] using hg
    subst this
    exact Below.heap_setCell _ _ _ _ (fun e => hgc e)
  · show some gg ≠ some b
    intro e
    have e' : gg = b := by simpa using e
    rcases hat with h | h
    · exact hv (by rw [h, e'])
    · omega
theorem infoPiece : (Tryz.prog.info? 131).map (fun i => (i.zero, i.size, i.bytes)) = some (some (.agg #[.int .i64 0, .string ⟨#[]⟩]), 2, 24) := by kernel_rfl
theorem end_zero (c : Nat) (a f : Int) (L : ByteArray) (v : Value) (w : World) (hC : CellsAt c [.string L, v, .int .i64 0, .int .i64 f] w) :
    Calls Tryz.prog 133 #[.pointer (some ⟨c, 0, none⟩), .int .i64 a] w fun e w' => e = .returned (.bool true) ∧ w' = w := by
  obtain ⟨hz, cf, cc⟩ := hC
  have c2 := cc 2 _ rfl
  clear cc
  go_enter Tryz.func133, Tryz.ntmps133
  go_wp2_with fail
  go_ret
  exact ⟨rfl, rfl⟩
set_option maxRecDepth 100000 in
set_option maxHeartbeats 8000000 in
theorem end_more (c f a n base : Nat) (k : Int) (L : ByteArray) (v : Value) (xs : List Value) (w : World) (hk : (k == 0) = false) (hC : CellsAt c [.string L, v, .int .i64 k, .int .i64 f] w) (hown : w.ownsRow base 131 2 v n xs)
    (hne : v.ownBlock ≠ some c) (hbase : base ≤ w.heap.size) (hf : f ≤ a) (ha : a ≤ L.size) (hL : L.size ≤ 2000) (hn : n ≤ 2000) :
    Calls Tryz.prog 133 #[.pointer (some ⟨c, 0, none⟩), .int .i64 a] w fun e w' => e = .returned (.bool (Pn.endOk k (L.extract f a).data.toList)) ∧ EndOut c L v n xs k f a base w w' := by
  obtain ⟨i0, hi, hz0, hz1, hz2⟩ := info_parts infoPiece
  obtain ⟨hz, cf, cc⟩ := hC
  have c0 := cc 0 _ rfl
  have c1 := cc 1 _ rfl
  have c2 := cc 2 _ rfl
  have c3 := cc 3 _ rfl
  have HC := hide cc
  have HF := hide cf
  have HO := hide hown
  clear cc hown
  have f1 : (f : Int) ≤ a := by omega
  have a1 : (a : Int) ≤ L.size := by omega
  have a2 : (L.size : Int) ≤ 2000 := by omega
  have hcn : w.heap.size ≠ c := by omega
  go_enter Tryz.func133, Tryz.ntmps133
  go_wp2_with fail
  go_region_held3 (fun w' => w'.cell? ⟨c, 0, none⟩ = some (.string L) ∧ w'.cell? ⟨c, 2, none⟩ = some (.int .i64 k) ∧ w'.cell? ⟨c, 3, none⟩ = some (.int .i64 f)) (go_keep) (fail)
  go_wp2_with fail
  have w1 : (w.alloc (.cells #[.int .i64 k, .string (L.extract f a)] 131)).drew.cell? ⟨c, 1, none⟩ = some v := by go_simp
  have wf : (w.alloc (.cells #[.int .i64 k, .string (L.extract f a)] 131)).drew.frozen? ⟨c, 1, none⟩ = false := by go_simp
  have wp0 : (w.alloc (.cells #[.int .i64 k, .string (L.extract f a)] 131)).drew.cell? ⟨w.heap.size, 0, none⟩ = some (.int .i64 k) := by go_simp
  have wp1 : (w.alloc (.cells #[.int .i64 k, .string (L.extract f a)] 131)).drew.cell? ⟨w.heap.size, 1, none⟩ = some (.string (L.extract f a)) := by go_simp
  have wsz : (w.alloc (.cells #[.int .i64 k, .string (L.extract f a)] 131)).drew.heap.size = w.heap.size + 1 := by show (w.alloc _).heap.size = _; simp
  have HOW := hide ((HO.out.alloc (.cells #[.int .i64 k, .string (L.extract f a)] 131)).drew)
  have HBW : Hid (Below w.heap.size w (w.alloc (.cells #[.int .i64 k, .string (L.extract f a)] 131)).drew) := ((Below.refl _ _).alloc (Nat.le_refl _) _).drew
  have HCW : Hid (CellsAt c [.string L, v, .int .i64 k, .int .i64 f] (w.alloc (.cells #[.int .i64 k, .string (L.extract f a)] 131)).drew) := CellsAt.next ⟨hz, HF.out, HC.out⟩ HBW.out
  have hvP : v.ownBlock ≠ some w.heap.size := fun e => by have := (HO.out.lt _ e).2; omega
  clear c0 c1 c2 c3 cf
  generalize (w.alloc (.cells #[.int .i64 k, .string (L.extract f a)] 131)).drew = W at *
  have HSZ := hide wsz
  have hcW : c < W.heap.size := by omega
  have hpW : w.heap.size < W.heap.size := by omega
  have hbW : base ≤ W.heap.size := by omega
  clear wsz
  go_region_law
    ((refine step_append_lies _ (by rfl) _ _ _ (by rfl) base 131 i0 _ 2 24 Tryz.underlying125 hi hz0 hz1 hz2 rfl (by omega) v n xs (by rfl) ((HOW.out.alloc _).drew)
        ⟨W.heap.size, 0, none⟩ 1 1 [.int .i64 k, .string (L.extract f a)] (by rfl) (by rfl) (World.news_of_block (cs := #[.int .i64 k, .string (L.extract f a)]) (t := 131) (fr := (0, 0)) (heap_alloc_new W _)) (by simp [Value.oneCell'])
        (by omega) (by unfold maxLen; omega) (by omega) (by simp; omega) (W.heap.size + 1) (by simp) ?_; intro gg cap w9 hown9 hgrow hat hlt; have q1 : w9.cell? ⟨c, 1, none⟩ = some v := (hgrow.cell_far _ (by simp; omega) (Ne.symm hne)).trans (by simp [w1, World.cell?_alloc_some]); have qf : w9.frozen? ⟨c, 1, none⟩ = false := (hgrow.frozen_far _ (by simp; omega) (Ne.symm hne)).trans (by simp [wf, World.frozen?_alloc_old, Nat.ne_of_lt hcW])))
  all_goals
    have HEO := hide (end_out HBW.out HSZ.out HCW.out hne hz hgrow hat hown9)
    have x0 : (w9.setCell ⟨c, 1, none⟩ (.slice (some ⟨gg, 0, none⟩) (n + 1) cap)).cell? ⟨w.heap.size, 0, none⟩ = some (.int .i64 k) := (World.cell?_setCell_far _ _ _ _ (fun e => hcn e.symm)).trans ((hgrow.cell_far _ (by simp; omega) (Ne.symm hvP)).trans (by simp [wp0, World.cell?_alloc_some]))
    have x1 : (w9.setCell ⟨c, 1, none⟩ (.slice (some ⟨gg, 0, none⟩) (n + 1) cap)).cell? ⟨w.heap.size, 1, none⟩ = some (.string (L.extract f a)) := (World.cell?_setCell_far _ _ _ _ (fun e => hcn e.symm)).trans ((hgrow.cell_far _ (by simp; omega) (Ne.symm hvP)).trans (by simp [wp1, World.cell?_alloc_some]))
    generalize w9.setCell ⟨c, 1, none⟩ (.slice (some ⟨gg, 0, none⟩) (n + 1) cap) = Z at *
    by_cases h2 : (k != 2) = true
    · go_wp2_with fail
      go_ret
      refine ⟨ret_val (congrArg Value.bool ?_), HEO.out⟩
      unfold Pn.endOk
      rw [h2, Bool.true_or]
    · have h2' : (k != 2) = false := by simpa using h2
      clear h2
      go_wp2_with (go_at_call 187; refine (isInt_is _ _).mono ?_; rintro e w' ⟨rfl, rfl⟩)
      go_ret
      refine ⟨ret_val (congrArg Value.bool ?_), HEO.out⟩
      unfold Pn.endOk
      rw [h2', Bool.false_or]
      have e : (L.extract f a).data.toList = List.take (a - f) (List.drop f L.data.toList) := by simp [ByteArray.data_extract, Array.toList_extract, List.extract_eq_take_drop]
      rw [e]
end Go.Proofs.YtbmcofdodfcnnaaGreatDoor
namespace Go.Proofs.YtbmcofdodfcnnaaGreatDoor
open Go.RowKit
def CutOut (o : Option (List Pn.Pc)) (w : World) (e : Ending) (w' : World) : Prop :=
  match o with
  | none => e = .returned (.tuple #[.slice none 0 0, .bool false])
  | some A => ∃ v, e = .returned (.tuple #[v, .bool true]) ∧ w'.ownsRow w.heap.size 131 2 v A.length (A.flatMap Pn.pcCells)
def CutRel (L : ByteArray) (w : World) (wr : World) : Prop :=
  ∃ (j f : Nat) (k : Int) (A : List Pn.Pc) (ao : Option Addr) (ln cp : Nat), j ≤ L.size ∧ f ≤ j ∧ A.length ≤ j ∧ wr.heap[w.heap.size + 1]? = some (.stringIter L j) ∧ CellsAt w.heap.size [.string L, .slice ao ln cp, .int .i64 k, .int .i64 f] wr ∧
    wr.ownsRow w.heap.size 131 2 (.slice ao ln cp) A.length (A.flatMap Pn.pcCells) ∧ (Value.slice ao ln cp).ownBlock ≠ some w.heap.size ∧ (Value.slice ao ln cp).ownBlock ≠ some (w.heap.size + 1) ∧
    Hid (Pn.cutM L.data.toList 0 [] = (Pn.cutM (L.data.toList.drop j) k (L.extract f j).data.toList).map (A ++ ·)) ∧ Below w.heap.size w wr
theorem rune_at (L : ByteArray) (j : Nat) (h : j < L.size) : ∃ (R : Int) (d : Nat), ((Utf8.decode L j).1 : Int) = R ∧ (Utf8.decode L j).2 = d ∧ 1 ≤ d ∧ (∀ k, Pn.goes k R = Pn.goes k (L[j]'h).toNat) ∧ Pn.beg R = Pn.beg (L[j]'h).toNat ∧
    (((∃ k, Pn.goes k (L[j]'h).toNat = true) ∨ (Pn.beg (L[j]'h).toNat).isSome = true) → d = 1) := by
  by_cases ha : (L[j]'h).toNat < 128
  · rw [decode_ascii L j h ha]
    exact ⟨_, _, rfl, rfl, Nat.le_refl _, fun _ => rfl, rfl, fun _ => rfl⟩
  · obtain ⟨h1, h2⟩ := decode_high L j h (by omega)
    refine ⟨_, _, rfl, rfl, h2, fun k => ?_, ?_, ?_⟩
    · rw [Pn.goes_high (by omega), Pn.goes_high (by omega)]
    · rw [Pn.beg_high (by omega), Pn.beg_high (by omega)]
    · rintro (⟨k, hk⟩ | hk)
      · rw [Pn.goes_high (by omega)] at hk; cases hk
      · rw [Pn.beg_high (by omega)] at hk; cases hk
theorem iter_own {w : World} {base : Nat} {e : TypeId} {size : Nat} {v : Value} {n : Nat} {xs : List Value} (h : w.ownsRow base e size v n xs) (k : Nat) (hk : v.ownBlock ≠ some k) (s : ByteArray) (p : Nat) : (w.iterAt k s p).ownsRow base e size v n xs :=
  ownsRow_of_block h (fun g hg => Lib.iterAt_other w k g s p (fun e => hk (by rw [hg, e])))
theorem cutOut_none {s w : List UInt8} {W : World} {e : Ending} {w' : World} {W0 : World} (h : Pn.cutM s 0 [] = none) (hw : w = s) (he : e = .returned (.tuple #[.slice none 0 0, .bool false])) (_ : W0.heap.size = W.heap.size) : CutOut (Pn.cutM w 0 []) W e w' := by
  rw [hw, h]; exact he
def CutSt (L : ByteArray) (W0 : World) (A : List Pn.Pc) (k : Int) (f p : Nat) (w : World) : Prop :=
  ∃ ao ln cp, CellsAt W0.heap.size [.string L, .slice ao ln cp, .int .i64 k, .int .i64 f] w ∧ w.ownsRow W0.heap.size 131 2 (.slice ao ln cp) A.length (A.flatMap Pn.pcCells) ∧
    (Value.slice ao ln cp).ownBlock ≠ some W0.heap.size ∧ (Value.slice ao ln cp).ownBlock ≠ some (W0.heap.size + 1) ∧ w.heap[W0.heap.size + 1]? = some (.stringIter L p) ∧ Below W0.heap.size W0 w
theorem own_slice {w : World} {base : Nat} {e : TypeId} {size : Nat} {v : Value} {n : Nat} {xs : List Value} (h : w.ownsRow base e size v n xs) : ∃ ao ln cp, v = .slice ao ln cp ∧ ∀ g, v.ownBlock = some g → base ≤ g := by
  obtain ⟨_, ⟨rfl, _⟩ | ⟨g, cap, cur, rfl, hg, _⟩⟩ := h
  · exact ⟨_, _, _, rfl, fun g hg => by simp [Value.ownBlock] at hg⟩
  · exact ⟨_, _, _, rfl, fun g' hg' => by simp [Value.ownBlock] at hg'; omega⟩
theorem end_all {L : ByteArray} {W0 : World} {A : List Pn.Pc} {k : Int} {f p a : Nat} {w : World} (h : CutSt L W0 A k f p w) (hf : f ≤ a) (ha : a ≤ L.size) (hL : L.size ≤ 2000) (hA : A.length ≤ 2000) :
    Calls Tryz.prog 133 #[.pointer (some ⟨W0.heap.size, 0, none⟩), .int .i64 a] w fun e w' => e = .returned (.bool (Pn.endP k (L.extract f a).data.toList).isSome) ∧ Below W0.heap.size W0 w' ∧
      ∀ ps, Pn.endP k (L.extract f a).data.toList = some ps → CutSt L W0 (A ++ ps) k f p w' := by
  obtain ⟨ao, ln, cp, hC, hown, h1, h2, hit, hB⟩ := h
  by_cases hk : (k == 0) = true
  · have hk0 : k = 0 := by simpa using hk
    subst hk0
    refine (end_zero _ _ _ _ _ _ hC).mono ?_
    rintro e w' ⟨rfl, rfl⟩
    refine ⟨rfl, hB, fun ps hps => ?_⟩
    rw [Pn.endP_zero] at hps
    cases hps
    rw [List.append_nil]
    exact ⟨ao, ln, cp, hC, hown, h1, h2, hit, hB⟩
  · have hk' : (k == 0) = false := by simpa using hk
    refine (end_more _ f a A.length W0.heap.size k L _ _ w hk' hC hown h1 hB.size hf ha hL hA).mono ?_
    rintro e w' ⟨rfl, v', hC', hown', hnb, hke⟩
    obtain ⟨ao', ln', cp', rfl, hgb'⟩ := own_slice hown'
    obtain ⟨_, _, _, _, hgb⟩ := own_slice hown
    have hitl : W0.heap.size + 1 < w.heap.size := (Array.getElem?_eq_some_iff.1 hit).1
    have hB' : Below W0.heap.size W0 w' := hke.below hB (Nat.le_refl _) hgb (Nat.le_refl _)
    refine ⟨?_, hB', fun ps hps => ?_⟩
    · cases he : Pn.endOk k (L.extract f a).data.toList with
      | true => rw [Pn.endP_yes hk' he]; rfl
      | false => rw [Pn.endP_no hk' he]; rfl
    · cases he : Pn.endOk k (L.extract f a).data.toList with
      | false => rw [Pn.endP_no hk' he] at hps; cases hps
      | true =>
        rw [Pn.endP_yes hk' he] at hps
        cases hps
        refine ⟨ao', ln', cp', hC', ?_, hnb _ hC.1 h1, hnb _ hitl h2, (hke.block _ hitl (by omega) h2).trans hit, hB'⟩
        have e1 : (A ++ [(k, (L.extract f a).data.toList)]).length = A.length + 1 := by simp
        have e2 : (A ++ [(k, (L.extract f a).data.toList)]).flatMap Pn.pcCells = A.flatMap Pn.pcCells ++ [.int .i64 k, .string (L.extract f a)] := by
          rw [List.flatMap_append]; rfl
        rw [e1, e2]; exact hown'
theorem begin_all {L : ByteArray} {W0 : World} {A : List Pn.Pc} {k : Int} {f p a : Nat} {r : Int} {w : World} (h : CutSt L W0 A k f p w) :
    Calls Tryz.prog 134 #[.pointer (some ⟨W0.heap.size, 0, none⟩), .int .i64 a, .int .i32 r] w fun e w' => e = .returned (.bool (Pn.beg r).isSome) ∧ Below W0.heap.size W0 w' ∧
      ∀ k', Pn.beg r = some k' → CutSt L W0 A k' a p w' := by
  obtain ⟨ao, ln, cp, hC, hown, h1, h2, hit, hB⟩ := h
  refine (begin_is _ _ _ _ _ _ _ _ _ _ hC).mono ?_
  rintro e w' ⟨rfl, hw, hn⟩
  obtain ⟨_, _, _, _, hgb⟩ := own_slice hown
  have hitl : W0.heap.size + 1 < w.heap.size := (Array.getElem?_eq_some_iff.1 hit).1
  cases hb : Pn.beg r with
  | none =>
    rw [hn hb]
    exact ⟨rfl, (Keeps.setCell W0.heap.size none w 3 _).below hB (Nat.le_refl _) (fun _ h => by cases h) (Nat.le_refl _), fun _ h => by cases h⟩
  | some k' =>
    rw [hw k' hb]
    have hk : Keeps W0.heap.size none w ((w.setCell ⟨W0.heap.size, 3, none⟩ (.int .i64 a)).setCell ⟨W0.heap.size, 2, none⟩ (.int .i64 k')) := (Keeps.setCell W0.heap.size none w 3 _).trans (Keeps.setCell W0.heap.size none _ 2 _)
    have hB' := hk.below hB (Nat.le_refl _) (fun _ h => by cases h) (Nat.le_refl _)
    refine ⟨rfl, hB', fun k'' h => ?_⟩
    cases h
    refine ⟨ao, ln, cp, (hC.set 3 _ (by simp)).set 2 _ (by simp), ownsRow_of_block hown (fun g hg => ?_), h1, h2, (hk.block _ hitl (by omega) (by simp)).trans hit, hB'⟩
    have hgl := (hown.lt g hg).2
    exact hk.block g hgl (fun e => h1 (by rw [hg, e])) (by simp)
set_option maxRecDepth 100000 in
set_option maxHeartbeats 16000000 in
theorem cut_is (s : ByteArray) (w : World) (hs : s.size ≤ 2000) (hE : Env w) :
    Calls Tryz.prog 73 #[.string s] w fun e w' => CutOut (Pn.cutM (Lib.cut s.data.toList [35]).1 0 []) w e w' ∧ Below w.heap.size w w' := by
  obtain ⟨m, hm⟩ := hE.2.2.1
  go_enter Tryz.func73, Tryz.ntmps73
  go_wp2_with fail
  refine (Tryz.strings_Cut s ⟨#[35]⟩ m w (by omega) hm).mono ?_
  rintro e w1 ⟨rfl, nd, rfl⟩
  have hLL : (Lib.cut s.data.toList [35]).1.length ≤ 2000 := by
    have : (Lib.cut s.data.toList [35]).1.length ≤ s.data.toList.length := by
      unfold Lib.cut; split
      · simp; omega
      · simp
    have e : s.data.toList.length = s.size := by simp
    omega
  have hLs : (ByteArray.mk (Lib.cut s.data.toList [35]).1.toArray).size ≤ 2000 := by simpa [ByteArray.size] using hLL
  have HLD : Hid ((ByteArray.mk (Lib.cut s.data.toList [35]).1.toArray).data.toList = (Lib.cut s.data.toList [35]).1) := by show _ = _; simp
  clear hLL
  have hB0 := drewN_below w nd
  have hsz : (w.drewN nd).heap.size = w.heap.size := rfl
  generalize w.drewN nd = W0 at *
  generalize ByteArray.mk (Lib.cut s.data.toList [35]).1.toArray = L at *
  have HSZ := hide hsz
  have HB0 := hide hB0
  clear hsz hB0 hm hE
  go_wp2_with fail
  go_loopw [] (fun wr => CutRel L W0 wr) (fun wr => L.size - wr.iterPos (W0.heap.size + 1))
  case atStart =>
    refine ⟨0, 0, 0, [], none, 0, 0, by omega, by omega, by simp, ?_, ?_, ?_, by simp [Value.ownBlock], by simp [Value.ownBlock], ?_, ?_⟩
    · have := World.iter_heap (W0.alloc (.cells #[.string L, .slice none 0 0, .int .i64 0, .int .i64 0] 188)) L 0
      rw [World.size_alloc] at this
      exact this
    · exact CellsAt.alloc (CellsAt.new W0 _ _) _
    · exact ⟨rfl, .inl ⟨rfl, rfl⟩⟩
    · show _ = _
      simp
    · exact ((Below.refl _ _).alloc (Nat.le_refl _) _).alloc (by simp) _
  case round =>
    obtain ⟨j, f, k, A, ao, ln, cp, hj, hf, hA, hit, hC, hown, hn1, hn2, HM, hB⟩ := hrel
    by_cases hlt : j < L.size
    · obtain ⟨R, d, hR, hd, hd1, hgo, hbe, hdd⟩ := rune_at L j hlt
      have hnx : ∀ ty, (Instr.next (.pointer (some ⟨W0.heap.size + 1, 0, none⟩)) true ty).run Tryz.prog wr = .ok (.tuple #[.bool true, .int .i64 j, .int .i32 R]) (wr.iterAt (W0.heap.size + 1) L (j + d)) := fun ty => by
        rw [Lib.run_next_any_at wr (W0.heap.size + 1) L j ty hit hlt, hR, hd]
      have HDR : Hid (L.data.toList.drop j = (L[j]'hlt) :: L.data.toList.drop (j + 1)) := by
        show _ = _
        rw [List.drop_eq_getElem_cons (by simpa using hlt)]; rfl
      have hBi := iter_below wr (W0.heap.size + 1) L (j + d)
      have hCi := hC.step hBi (by omega)
      have HIT : Hid ((wr.iterAt (W0.heap.size + 1) L (j + d)).heap[W0.heap.size + 1]? = some (.stringIter L (j + d))) := Lib.iterAt_heap wr _ L j (j + d) hit
      have HOW := hide (iter_own hown _ hn2 L (j + d))
      have HB2 : Hid (Below W0.heap.size W0 (wr.iterAt (W0.heap.size + 1) L (j + d))) := hB.trans (hBi.mono (by omega))
      have hszi : W0.heap.size + 1 < (wr.iterAt (W0.heap.size + 1) L (j + d)).heap.size := (Array.getElem?_eq_some_iff.1 HIT.out).1
      have HIT0 := hide hit
      have HCi := hide hCi
      have HGO := hide hgo
      have HBE := hide hbe
      have HDD := hide hdd
      clear hC hown hit hB hBi hR hd hgo hbe hdd hCi
      generalize wr.iterAt (W0.heap.size + 1) L (j + d) = W at *
      by_cases hg : Pn.goes k (L[j]'hlt).toNat = true
      · have hd : d = 1 := HDD.out (.inl ⟨k, hg⟩)
        subst hd
        have hgR : Pn.goes k R = true := (HGO.out k).trans hg
        go_wp2_with (go_at_call 132; refine (goesOn_is _ _ _ _ _ _ _ HCi.out).mono ?_; rintro e w' ⟨rfl, rfl⟩)
        go_roundw
        case rel =>
          refine ⟨j + 1, f, k, A, ao, ln, cp, by omega, by omega, by omega, HIT.out, HCi.out, HOW.out, hn1, hn2, ?_, HB2.out⟩
          show _ = _
          rw [HM.out, HDR.out, Pn.cutM_goes hg, Pn.ext_more L f j hf hlt]
        case measure =>
          simp [World.iterPos, HIT.out, HIT0.out]
          omega
      · have hg' : Pn.goes k (L[j]'hlt).toNat = false := by simpa using hg
        have hgR : Pn.goes k R = false := (HGO.out k).trans hg'
        clear hg
        have HST : Hid (CutSt L W0 A k f (j + d) W) := ⟨ao, ln, cp, HCi.out, HOW.out, hn1, hn2, HIT.out, HB2.out⟩
        go_wp2_with (go_at_call 132; refine (goesOn_is _ _ _ _ _ _ _ HCi.out).mono ?_; rintro e w' ⟨rfl, rfl⟩)
        refine (end_all HST.out hf (by omega) hLs (by omega)).mono ?_
        rintro e w3 ⟨rfl, hB3, hS3⟩
        have HB3 := hide hB3
        have HS3 := hide hS3
        clear hB3 hS3
        cases hep : Pn.endP k (L.extract f j).data.toList with
        | none =>
          have HN : Hid (Pn.cutM L.data.toList 0 [] = none) := by show _ = _; rw [HM.out, HDR.out, Pn.cutM_end hg' hep]; rfl
          simp only [Option.isSome]
          go_wp2_with fail
          go_ret2
          exact ⟨cutOut_none HN.out HLD.out.symm rfl HSZ.out, HB0.out.trans (HB3.out.mono (by rw [HSZ.out]; exact Nat.le_refl _))⟩
        | some ps =>
          have HS4 := hide (HS3.out ps hep)
          have HEP := hide hep
          clear HS3 hep
          simp only [Option.isSome]
          go_wp2_with fail
          refine (begin_all HS4.out).mono ?_
          rintro e w4 ⟨rfl, hB4, hS4⟩
          have HB4 := hide hB4
          have HS5 := hide hS4
          clear hB4 hS4
          cases hbp : Pn.beg R with
          | none =>
            have HN : Hid (Pn.cutM L.data.toList 0 [] = none) := by show _ = _; rw [HM.out, HDR.out, Pn.cutM_beg hg' (HBE.out.symm.trans hbp)]; rfl
            simp only [Option.isSome]
            go_wp2_with fail
            go_ret2
            exact ⟨cutOut_none HN.out HLD.out.symm rfl HSZ.out, HB0.out.trans (HB4.out.mono (by rw [HSZ.out]; exact Nat.le_refl _))⟩
          | some k' =>
            have HS6 := hide (HS5.out k' hbp)
            have hbc : Pn.beg (L[j]'hlt).toNat = some k' := HBE.out.symm.trans hbp
            have hd : d = 1 := HDD.out (.inr (by rw [hbc]; rfl))
            subst hd
            simp only [Option.isSome]
            go_wp2_with fail
            go_roundw
            case rel =>
              obtain ⟨ao6, ln6, cp6, g1, g2, g3, g4, g5, g6⟩ := HS6.out
              have hps : ps.length ≤ 1 := by
                have := HEP.out
                unfold Pn.endP at this
                split at this
                · cases this; simp
                · split at this
                  · cases this; simp
                  · cases this
              refine ⟨j + 1, j, k', A ++ ps, ao6, ln6, cp6, by omega, by omega, by simp; omega, g5, g1, g2, g3, g4, ?_, g6⟩
              show _ = _
              rw [HM.out, HDR.out, Pn.cutM_next hg' HEP.out hbc, Pn.ext_one L j hlt, Option.map_map]
              congr 1
              funext x
              simp
            case measure =>
              obtain ⟨_, _, _, _, _, _, _, g5, _⟩ := HS6.out
              simp [World.iterPos, g5, HIT0.out]
              omega
    · have hje : j = L.size := by omega
      subst hje
      have hnx : ∀ ty, (Instr.next (.pointer (some ⟨W0.heap.size + 1, 0, none⟩)) true ty).run Tryz.prog wr = .ok (.tuple #[.bool false]) wr := fun ty =>
        Lib.run_next_end_at wr (W0.heap.size + 1) L _ ty hit hlt
      have HST : Hid (CutSt L W0 A k f L.size wr) := ⟨ao, ln, cp, hC, hown, hn1, hn2, hit, hB⟩
      have HDR : Hid (L.data.toList.drop L.size = []) := by show _ = _; apply List.drop_eq_nil_of_le; simp
      clear hC hown hit hB
      go_wp2_with fail
      refine (end_all HST.out hf (Nat.le_refl _) hLs (by omega)).mono ?_
      rintro e w3 ⟨rfl, hB3, hS3⟩
      have HB3 := hide hB3
      have HS3 := hide hS3
      clear hB3 hS3
      cases hep : Pn.endP k (L.extract f L.size).data.toList with
      | none =>
        have HN : Hid (Pn.cutM L.data.toList 0 [] = none) := by
          show _ = _
          rw [HM.out, HDR.out]
          simp only [Pn.cutM]
          rw [hep]; rfl
        simp only [Option.isSome]
        go_wp2_with fail
        go_ret2
        exact ⟨cutOut_none HN.out HLD.out.symm rfl HSZ.out, HB0.out.trans (HB3.out.mono (by rw [HSZ.out]; exact Nat.le_refl _))⟩
      | some ps =>
        have HN : Hid (Pn.cutM L.data.toList 0 [] = some (A ++ ps)) := by
          show _ = _
          rw [HM.out, HDR.out]
          simp only [Pn.cutM]
          rw [hep]; rfl
        obtain ⟨ao6, ln6, cp6, g1, g2, g3, g4, g5, g6⟩ := HS3.out ps hep
        have g11 := g1.2.2 1 _ rfl
        have G2 := hide g2
        clear hep g1 g2 g5 g6
        simp only [Option.isSome]
        go_wp2_with fail
        go_ret2
        refine ⟨?_, HB0.out.trans (HB3.out.mono (by rw [HSZ.out]; exact Nat.le_refl _))⟩
        rw [← HLD.out, HN.out]
        exact ⟨_, rfl, by rw [← HSZ.out]; exact G2.out⟩
end Go.Proofs.YtbmcofdodfcnnaaGreatDoor
namespace Go.Proofs.YtbmcofdodfcnnaaGreatDoor
open Go.RowKit
theorem isName_is (k : Int) (t : ByteArray) (w : World) (ht : t.size ≤ 2000) :
    Calls Tryz.prog 226 #[.agg #[.int .i64 k, .string t]] w fun e w' => e = .returned (.bool (Pn.isNm k t.data.toList)) ∧ Below w.heap.size w w' := by
  have hlen : t.data.toList.length = t.size := by simp
  go_enter Tryz.func226, Tryz.ntmps226
  go_wp2_with (go_at_call 72; refine (Tryz.strings_Contains_one t 46 _).mono ?_; rintro e w' ⟨rfl, rfl⟩)
  all_goals
    go_ret
    refine ⟨ret_val (congrArg Value.bool ?_), (Below.refl _ _).alloc (Nat.le_refl _) _⟩
    unfold Pn.isNm
    rw [hlen]
    first
    | (rw [beq_false_of_ne ‹¬ k = 1›]; rfl)
    | (rw [decide_eq_false (p := t.size ≤ 8) (by omega)]; simp)
    | (rw [show (k == 1) = true from beq_iff_eq.2 ‹k = 1›, decide_eq_true (p := t.size ≤ 8) (by omega)]; rfl)
theorem world_or {w w' : World} (h : w' = w ∨ ∃ t, w' = Lib.bytesWorld w 5 t) : Below w.heap.size w w' := by
  rcases h with rfl | ⟨t, rfl⟩
  · exact Below.refl _ _
  · exact Joins.below_bytesWorld _ _ _ _ (Nat.le_refl _)
theorem atoi_any (t : ByteArray) (w : World) (ht : t.size ≤ 2000) (hE : Env w) :
    Calls Tryz.prog 272 #[.string t] w fun e w' => ∃ n v, e = .returned (.tuple #[.int .i64 n, v]) ∧ (-9223372036854775808 ≤ n ∧ n ≤ 9223372036854775807) ∧ Below w.heap.size w w' ∧
      ((∃ u, Lib.atoiAll t.data.toList = .ok u ∧ n = u ∧ v = .nilIface) ∨ ((∀ u, Lib.atoiAll t.data.toList ≠ .ok u) ∧ ∃ te pe, v = .iface te pe)) := by
  obtain ⟨te, pe, h4⟩ := hE.2.2.2.1
  obtain ⟨tf, pf, h5⟩ := hE.2.2.2.2
  rcases ha : Lib.atoiAll t.data.toList with u | _ | _
  · refine (Tryz.strconv_Atoi_ok t (by omega) u ha w).mono ?_
    rintro e w' ⟨rfl, hw⟩
    exact ⟨u, _, rfl, Pn.atoiAll_bd ha, world_or hw, .inl ⟨u, rfl, rfl, rfl⟩⟩
  · refine (Tryz.strconv_Atoi_syntax t (by omega) ha _ w h4 (.inr ⟨_, _, rfl⟩)).mono ?_
    rintro e w' ⟨N, rfl, _, _, hB⟩
    exact ⟨0, _, rfl, by omega, hB, .inr ⟨fun u h => (by cases h), _, _, rfl⟩⟩
  · refine (Tryz.strconv_Atoi_range t (by omega) ha _ w h5 (.inr ⟨_, _, rfl⟩)).mono ?_
    rintro e w' ⟨N, rfl, _, _, hB⟩
    refine ⟨_, _, rfl, ?_, hB, .inr ⟨fun u h => (by cases h), _, _, rfl⟩⟩
    unfold Lib.atoiSat
    split <;> omega
theorem readNumber_is (k : Int) (t : ByteArray) (w : World) (ht : t.size ≤ 2000) (hE : Env w) :
    Calls Tryz.prog 253 #[.agg #[.int .i64 k, .string t]] w fun e w' => ∃ n : Int, e = .returned (.tuple #[.int .i64 n, .bool (Pn.pnum k t.data.toList).isSome]) ∧ (∀ v, Pn.pnum k t.data.toList = some v → n = v) ∧ Below w.heap.size w w' := by
  have HE := hide (fun o => hE.alloc o)
  by_cases hk : (k != 2) = true
  · have hp : Pn.pnum k t.data.toList = none := by
      have : ¬ k = 2 := by simpa using hk
      simp [Pn.pnum, this]
    have HPN := hide hp
    clear hp
    go_enter Tryz.func253, Tryz.ntmps253
    go_wp2_with fail
    go_ret2
    exact ⟨0, by rw [HPN.out]; rfl, fun v h => (by rw [HPN.out] at h; cases h), (Below.refl _ _).alloc (Nat.le_refl _) _⟩
  · have hk' : (k != 2) = false := by simpa using hk
    have hk2 : k = 2 := by simpa using hk
    clear hk
    go_enter Tryz.func253, Tryz.ntmps253
    go_wp2_with fail
    refine (atoi_any t _ ht (HE.out _)).mono ?_
    rintro e w1 ⟨n, v, rfl, hn, hB, hv⟩
    have HB := hide (((Below.refl w.heap.size w).alloc (Nat.le_refl _) _).trans (hB.mono (by simp)))
    clear hB
    rcases hv with ⟨u, hu, hnu, rfl⟩ | ⟨hu, te, pe, rfl⟩
    · have HPN : Hid (Pn.pnum k t.data.toList = some n) := by show _ = _; simp [Pn.pnum, hk2, hu, hnu]
      clear hu hnu
      go_wp2_with fail
      go_quiet (fail)
      go_wp2_with fail
      go_ret2
      exact ⟨n, by rw [HPN.out]; rfl, fun v h => (by rw [HPN.out] at h; cases h; rfl), below_drewN HB.out _⟩
    · have HPN : Hid (Pn.pnum k t.data.toList = none) := by
        show _ = _
        cases h : Lib.atoiAll t.data.toList with
        | ok u => exact absurd h (hu u)
        | _ => simp [Pn.pnum, hk2, h]
      clear hu
      go_wp2_with fail
      go_quiet (fail)
      go_wp2_with fail
      go_ret2
      exact ⟨n, by rw [HPN.out]; rfl, fun v h => (by rw [HPN.out] at h; cases h), below_drewN HB.out _⟩
theorem showRegister_v (n : Int) (w : World) (h0 : -9223372036854775808 ≤ n) (h1 : n ≤ 9223372036854775807) (hE : Env w) :
    Calls Tryz.prog 113 #[.int .i64 n] w fun e w' => e = .returned (.string ⟨(Pn.regL n).toArray⟩) ∧ Below w.heap.size w w' :=
  (showRegister_is n w h0 h1 hE).mono fun _ _ ⟨s, he, _, hs, hB⟩ => ⟨by rw [he, str_ext hs.out], hB⟩
set_option maxHeartbeats 2000000 in
theorem readRegister_is (k : Int) (t : ByteArray) (w : World) (ht : t.size ≤ 2000) (hE : Env w) :
    Calls Tryz.prog 252 #[.agg #[.int .i64 k, .string t]] w fun e w' => e = .returned (.tuple #[.int .i64 ((Pn.preg t.data.toList).getD 0), .bool (Pn.preg t.data.toList).isSome]) ∧ Below w.heap.size w w' := by
  have HE := hide (fun o => hE.alloc o)
  by_cases hp : Lib.hasPrefix t.data.toList [120] = true
  · have htl : (Lib.trimPrefix t.data.toList [120]).length ≤ 2000 := by
      have e : t.data.toList.length = t.size := by simp
      have h2 : (List.drop [(120 : UInt8)].length t.data.toList).length ≤ t.data.toList.length := by rw [List.length_drop]; exact Nat.sub_le _ _
      unfold Lib.trimPrefix
      split
      · exact Nat.le_trans h2 (by omega)
      · omega
    go_enter Tryz.func252, Tryz.ntmps252
    go_wp2_with fail
    refine (Tryz.strings_CutPrefix t ⟨#[120]⟩ _).mono ?_
    rintro e w1 ⟨rfl, rfl⟩
    have hp' : Lib.hasPrefix t.data.toList (ByteArray.mk #[120]).data.toList = true := hp
    rw [hp']
    go_wp2_with fail
    refine (atoi_any _ _ (by simpa [ByteArray.size] using htl) (HE.out _)).mono ?_
    rintro e w1 ⟨n, v, rfl, hn, hB, hv⟩
    have HC := hide ((CellsAt.new w [.int .i64 k, .string t] 131).next hB)
    have HE1 : Hid (Env w1) := Env.below (HE.out _) hB (HE.out _).1
    have HB := hide (((Below.refl w.heap.size w).alloc (Nat.le_refl _) _).trans (hB.mono (by simp)))
    clear hB
    rcases hv with ⟨u, hu, hnu, rfl⟩ | ⟨hu, te, pe, rfl⟩
    · subst hnu
      by_cases h31 : 31 < n
      · have HPN : Hid (Pn.preg t.data.toList = none) := by
          show _ = _
          have hu' : Lib.atoiAll (Lib.trimPrefix t.data.toList [120]) = .ok n := by simpa using hu
          have : ¬ (n ≤ 31 ∧ Pn.regL n = t.data.toList) := by omega
          simp only [Pn.preg, hp, if_true, hu', if_neg this]
        clear hu
        go_wp2_with fail
        go_quiet (fail)
        go_wp2_with fail
        go_ret2
        exact ⟨by rw [HPN.out]; rfl, below_drewN HB.out _⟩
      · have h31' : n ≤ 31 := by omega
        have x1 := cell_regrown (HC.out.2.2 1 _ rfl)
        have hu' : Lib.atoiAll (Lib.trimPrefix t.data.toList [120]) = .ok n := by simpa using hu
        by_cases hq : Pn.regL n = t.data.toList
        · have HPN : Hid (Pn.preg t.data.toList = some n) := by
            show _ = _
            simp only [Pn.preg, hp, if_true, hu', if_pos (And.intro h31' hq)]
          have hqq : (Pn.regL n == t.toList) = true := by rw [ByteArray.toList_eq]; simpa using hq
          clear hu hu'
          go_wp2_with fail
          refine wp_region_quiet_below (by kernel_rfl) (by kernel_rfl) ?_
          repeat (quiet_step (first
            | (go_at_call 113; exact Calls.regrown_of (showRegister_v n _ hn.1 hn.2 (Env.below HE1.out (below_regrown _ _ _) HE1.out.1)))))
          refine wpQuiet_nil ?_
          intro _ hw'
          obtain ⟨⟨dq, osq⟩, hw''⟩ := hw'
          subst hw''
          go_wp2_with fail
          go_ret2
          exact ⟨by rw [HPN.out]; rfl, Below.trans HB.out ((below_regrown w1 dq osq).mono HB.out.size)⟩
        · have HPN : Hid (Pn.preg t.data.toList = none) := by
            show _ = _
            have : ¬ (n ≤ 31 ∧ Pn.regL n = t.data.toList) := fun h => hq h.2
            simp only [Pn.preg, hp, if_true, hu', if_neg this]
          have hqq : (Pn.regL n == t.toList) = false := by rw [ByteArray.toList_eq]; simpa using hq
          clear hu hu'
          go_wp2_with fail
          refine wp_region_quiet_below (by kernel_rfl) (by kernel_rfl) ?_
          repeat (quiet_step (first
            | (go_at_call 113; exact Calls.regrown_of (showRegister_v n _ hn.1 hn.2 (Env.below HE1.out (below_regrown _ _ _) HE1.out.1)))))
          refine wpQuiet_nil ?_
          intro _ hw'
          obtain ⟨⟨dq, osq⟩, hw''⟩ := hw'
          subst hw''
          go_wp2_with fail
          go_ret2
          exact ⟨by rw [HPN.out]; rfl, Below.trans HB.out ((below_regrown w1 dq osq).mono HB.out.size)⟩
    · have HPN : Hid (Pn.preg t.data.toList = none) := by
        show _ = _
        have hu' : ∀ u, Lib.atoiAll (Lib.trimPrefix t.data.toList [120]) ≠ .ok u := by simpa using hu
        cases h : Lib.atoiAll (Lib.trimPrefix t.data.toList [120]) with
        | ok u => exact absurd h (hu' u)
        | _ => simp [Pn.preg, hp, h]
      clear hu
      go_wp2_with fail
      go_quiet (fail)
      go_wp2_with fail
      go_ret2
      exact ⟨by rw [HPN.out]; rfl, below_drewN HB.out _⟩
  · have hp' : Lib.hasPrefix t.data.toList (ByteArray.mk #[120]).data.toList = false := by simpa using hp
    have HPN : Hid (Pn.preg t.data.toList = none) := by
      show _ = _
      simp [Pn.preg, hp]
    go_enter Tryz.func252, Tryz.ntmps252
    go_wp2_with fail
    refine (Tryz.strings_CutPrefix t ⟨#[120]⟩ _).mono ?_
    rintro e w1 ⟨rfl, rfl⟩
    rw [hp']
    go_wp2_with fail
    go_ret2
    exact ⟨by rw [HPN.out]; rfl, (Below.refl _ _).alloc (Nat.le_refl _) _⟩
end Go.Proofs.YtbmcofdodfcnnaaGreatDoor
