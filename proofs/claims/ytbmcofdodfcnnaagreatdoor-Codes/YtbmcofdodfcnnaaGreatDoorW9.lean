import Derived.Test.YtbmcofdodfcnnaaGreatDoorW8b
namespace Go.Proofs.YtbmcofdodfcnnaaGreatDoor
open Go.RowKit

/-- the tokens of a line, as a slice of the call's own -/
def TokOut (o : Option (List Pn.Tok)) (w : World) (e : Ending) (w' : World) : Prop :=
  match o with
  | none => e = .returned (.tuple #[.slice none 0 0, .bool false])
  | some A => ∃ v, e = .returned (.tuple #[v, .bool true]) ∧ w'.ownsRow w.heap.size 268 4 v A.length (A.flatMap Pn.tokCells)

/-- the loop's relation: so far the tokens A lie in l; what is left is l.drop i -/
def TokRel (s : ByteArray) (w : World) (l b i : Value) (wr : World) : Prop :=
  ∃ (A : List Pn.Tok) (bl : Bool) (j : Nat), j ≤ s.size ∧ A.length ≤ j ∧ b = .bool bl ∧ i = .int .i64 j ∧ wr.ownsRow w.heap.size 268 4 l A.length (A.flatMap Pn.tokCells) ∧
    Hid (Pn.toks s.data.toList false = (Pn.toks (s.data.toList.drop j) bl).map (A ++ ·)) ∧ Below w.heap.size w wr

theorem cells_at {w : World} {b : Nat} {C : Array Value} {t : TypeId} (h : w.heap[b]? = some (.cells C t (0, 0))) (o : Nat) : w.cell? ⟨b, o, none⟩ = C[o]? := by
  simp [World.cell?, h]
theorem frozen_at {w : World} {b : Nat} {C : Array Value} {t : TypeId} (h : w.heap[b]? = some (.cells C t (0, 0))) (o : Nat) : w.frozen? ⟨b, o, none⟩ = false := by
  simp [World.frozen?, h]
theorem four_new (w : World) (a b c d : Value) (t : TypeId) (N : Nat) (hN : w.heap.size = N) : ∀ j u, [a, b, c, d][j]? = some u → (w.alloc (.cells #[a, b, c, d] t)).cell? ((⟨N, 0, none⟩ : Addr).add j) = some u := by
  subst hN
  intro j u h
  rcases j with _ | _ | _ | _ | j
  · simp at h; subst h; go_simp
  · simp at h; subst h; go_simp
  · simp at h; subst h; go_simp
  · simp at h; subst h; go_simp
  · simp at h

/-- a round that takes one token more -/
theorem tokRel_next {s : ByteArray} {w w3 : World} {A : List Pn.Tok} {bl : Bool} {j n : Nat} {v' : Value} {k v : Int} (hj : j + n ≤ s.size) (hn : 1 ≤ n) (hA : A.length ≤ j)
    (h35 : Pn.B s j ≠ 35) (hbl : ¬ (Pn.B s j = 32 ∨ Pn.B s j = 9)) (ht : Pn.tok1 (Pn.B s j) (s.data.toList.drop (j + 1)) = some (k, v, n - 1))
    (hno : Pn.toks s.data.toList false = (Pn.toks (s.data.toList.drop j) bl).map (A ++ ·))
    (hown : w3.ownsRow w.heap.size 268 4 v' (A.length + 1) (A.flatMap Pn.tokCells ++ [.int .u8 k, .string (s.extract j (j + n)), .int .i64 v, .bool bl])) (hB : Below w.heap.size w w3) :
    ∀ iv : Value, iv = .int .i64 ((j + n : Nat) : Int) → TokRel s w v' (.bool false) iv w3 := by
  rintro _ rfl
  refine ⟨A ++ [⟨k, Pn.B s j :: (s.data.toList.drop (j + 1)).take (n - 1), v, bl⟩], false, j + n, hj, by simp; omega, rfl, rfl, ?_, ?_, hB⟩
  · have e : Value.string (s.extract j (j + n)) = .string ⟨(Pn.B s j :: (s.data.toList.drop (j + 1)).take (n - 1)).toArray⟩ := str_ext (Pn.extract_list s j n hn hj)
    rw [e] at hown
    simpa [Pn.tokCells] using hown
  · show Pn.toks s.data.toList false = _
    rw [hno, Pn.drop_cons s j (by omega), Pn.toks_some _ _ _ h35 hbl _ _ _ ht]
    have e : j + 1 + (n - 1) = j + n := by omega
    rw [List.drop_drop, e, Option.map_map]
    congr 1
    funext x
    simp

theorem infoTok : (Tryz.prog.info? 268).map (fun i => (i.zero, i.size, i.bytes)) = some (some (.agg #[.int .u8 0, .string ⟨#[]⟩, .int .i64 0, .bool false]), 4, 40) := by kernel_rfl

theorem tokOut_end {s : ByteArray} {w wr : World} {A : List Pn.Tok} {bl : Bool} {j : Nat} {l : Value} (hno : Pn.toks s.data.toList false = (Pn.toks (s.data.toList.drop j) bl).map (A ++ ·))
    (h : Pn.toks (s.data.toList.drop j) bl = some []) (hown : wr.ownsRow w.heap.size 268 4 l A.length (A.flatMap Pn.tokCells)) {e : Ending} (he : e = .returned (.tuple #[l, .bool true])) : TokOut (Pn.toks s.data.toList false) w e wr := by
  rw [hno, h]
  simp only [Option.map_some, List.append_nil, TokOut]
  exact ⟨l, he, hown⟩
theorem tokOut_none {s : ByteArray} {w wr : World} {A : List Pn.Tok} {bl : Bool} {j : Nat} (hno : Pn.toks s.data.toList false = (Pn.toks (s.data.toList.drop j) bl).map (A ++ ·))
    (h : Pn.toks (s.data.toList.drop j) bl = none) {e : Ending} (he : e = .returned (.tuple #[.slice none 0 0, .bool false])) : TokOut (Pn.toks s.data.toList false) w e wr := by
  rw [hno, h]
  exact he
theorem tokRel_blank {s : ByteArray} {w wr : World} {A : List Pn.Tok} {bl : Bool} {j : Nat} {l : Value} (hj : j < s.size) (hA : A.length ≤ j) (hc : Pn.B s j = 32 ∨ Pn.B s j = 9)
    (hno : Pn.toks s.data.toList false = (Pn.toks (s.data.toList.drop j) bl).map (A ++ ·)) (hown : wr.ownsRow w.heap.size 268 4 l A.length (A.flatMap Pn.tokCells)) (hB : Below w.heap.size w wr) :
    ∀ iv : Value, iv = .int .i64 ((j + 1 : Nat) : Int) → TokRel s w l (.bool true) iv wr := by
  rintro _ rfl
  refine ⟨A, true, j + 1, by omega, by omega, rfl, rfl, hown, ?_, hB⟩
  show Pn.toks s.data.toList false = _
  rw [hno, Pn.drop_cons s j hj, Pn.toks_blank _ _ _ hc]
/-- the number's digits, from f on -/
def NumRel (s : ByteArray) (wr : World) (bl : Bool) (f j n : Nat) (k : Value) (wx : World) : Prop :=
  ∃ (q d : Nat), f ≤ q ∧ q ≤ j + n ∧ k = .int .i64 q ∧ (wr.alloc (.cells #[.int .u8 105, .string ⟨#[]⟩, .int .i64 (Pn.numAt s f q), .bool bl] 268)).drewN d = wx

theorem setTok (w : World) (a b c e v : Value) (t : TypeId) (d : Nat) : ((w.alloc (.cells #[a, b, c, e] t)).drewN d).setCell ⟨w.heap.size, 2, none⟩ v = (w.alloc (.cells #[a, b, v, e] t)).drewN d := by
  show ((w.alloc (.cells #[a, b, c, e] t)).setCell ⟨w.heap.size, 2, none⟩ v).drewN d = _
  rw [World.setCell_alloc_at _ _ _ _ _ rfl]
  rfl

theorem own_mid {w : World} {base : Nat} {e : TypeId} {size : Nat} {v : Value} {n : Nat} {xs : List Value} (h : w.ownsRow base e size v n xs) (o : Obj) (d k : Nat) (u : Value) :
    (((w.alloc o).drewN d).setCell ⟨w.heap.size, k, none⟩ u).ownsRow base e size v n xs := by
  have h1 : ((w.alloc o).drewN d).ownsRow base e size v n xs := h.alloc o
  refine ownsRow_setCell_other h1 (fun hc => ?_) u
  have := (h.lt _ hc).2
  simp at this
theorem size_mid (w : World) (o : Obj) (d k : Nat) (u : Value) : (((w.alloc o).drewN d).setCell ⟨w.heap.size, k, none⟩ u).heap.size = w.heap.size + 1 := by
  have e : (((w.alloc o).drewN d).setCell ⟨w.heap.size, k, none⟩ u).heap.size = ((w.alloc o).drewN d).heap.size := by simp [World.setCell]
  rw [e]; exact size1 w o

set_option maxRecDepth 100000 in
set_option maxHeartbeats 16000000 in
theorem tokens_is (s : ByteArray) (w : World) (hs : s.size ≤ 2000) :
    Calls Tryz.prog 162 #[.string s] w fun e w' => TokOut (Pn.toks s.data.toList false) w e w' ∧ Below w.heap.size w w' := by
  obtain ⟨i0, hi, hz0, hz1, hz2⟩ := info_parts infoTok
  go_enter Tryz.func162, Tryz.ntmps162
  go_wp2_with fail
  go_loopw [4, 5, 6] (fun l b i wr => TokRel s w l b i wr) (fun _ _ i _ => s.size - (intOf i).toNat)
  case atStart => exact ⟨[], false, 0, by omega, by simp, rfl, rfl, World.ownsRow_nil _ _ _ _, by simp [Hid], Below.refl _ _⟩
  case round =>
    obtain ⟨A, bl, j, hj, hA, rfl, rfl, hown, hno, hB⟩ := hrel
    have HO : Hid (wr.ownsRow w.heap.size 268 4 u4 A.length (A.flatMap Pn.tokCells)) := hown
    have HB : Hid (Below w.heap.size w wr) := hB
    clear hown hB
    have hBq := Pn.B_eq s
    by_cases hlt : j < s.size
    · rcases Pn.chars (Pn.B s j) with e0 | e0 | e0 | e0 | e0 | e0 | e0 | e0 | e0 | e0
      · -- a remark
        as_aux_lemma =>
          go_wp2_with fail
          go_ret2
          exact ⟨tokOut_end hno.out (by rw [Pn.drop_cons s j hlt]; exact Pn.toks_hash _ _ _ e0) HO.out rfl, HB.out⟩
      · -- a blank
        as_aux_lemma =>
          go_wp2_with fail
          go_roundw
          case rel => exact tokRel_blank hlt hA (by rw [e0]; decide) hno.out HO.out HB.out _ (by go_num)
          case measure => simp [intOf]; omega
      · -- a blank
        as_aux_lemma =>
          go_wp2_with fail
          go_roundw
          case rel => exact tokRel_blank hlt hA (by rw [e0]; decide) hno.out HO.out HB.out _ (by go_num)
          case measure => simp [intOf]; omega
      · -- a sign
        as_aux_lemma =>
          have hsm : Pn.smallB 44 = false := rfl
          have hdg : Pn.digitB 44 = false := rfl
          go_wp2_with (first
            | (go_at_call 207; refine (small_is _ _).mono ?_; rintro e w' ⟨rfl, rfl⟩)
            | (go_at_call 208; refine (digit_is _ _).mono ?_; rintro e w' ⟨rfl, rfl⟩)
            | (at_builtin; refine wpList_append_own _ rfl _ _ 219 rfl w.heap.size 268 i0 (.agg #[.int .u8 0, .string ⟨#[]⟩, .int .i64 0, .bool false]) 4 40 Tryz.underlying219 hi hz0 hz1 hz2 rfl (by decide) _ A.length _ rfl (((HO.out).alloc _).alloc _) ⟨wr.heap.size + 1, 0, none⟩ 1 1 [_, _, _, _] rfl rfl (four_new _ _ _ _ _ _ _ (size1 _ _)) ?h1 ?h63 ?hby ?hbase ?_
               case h1 => intro x hx; simp at hx; rcases hx with rfl | rfl | rfl | rfl <;> rfl
               case h63 => unfold maxLen; omega
               case hby => omega
               case hbase => have := HB.out.size; simp; omega
               intro v' w3 hown' hgrow3 hnil3
               have X : Hid (w3.ownsRow w.heap.size 268 4 v' (A.length + 1) _ ∧ Below w.heap.size w w3) := ⟨hown', Below.grown ((HB.out.alloc HB.out.size _).alloc (by have := HB.out.size; simp; omega) _) hgrow3 (by have := HB.out.size; simp; omega) (fun q hq => (HO.out.lt q hq).1)⟩
               clear hown' hgrow3 hnil3))
          go_roundw
          case rel => exact tokRel_next (n := 1) (by omega) (by omega) hA (by rw [e0]; decide) (by rw [e0]; decide) (by rw [Pn.tok1_sign _ _ (by rw [e0]; decide), e0]; rfl) hno.out X.out.1 X.out.2 _ (by go_num)
          case measure => simp [intOf]; omega
      · -- a sign
        as_aux_lemma =>
          have hsm : Pn.smallB 40 = false := rfl
          have hdg : Pn.digitB 40 = false := rfl
          go_wp2_with (first
            | (go_at_call 207; refine (small_is _ _).mono ?_; rintro e w' ⟨rfl, rfl⟩)
            | (go_at_call 208; refine (digit_is _ _).mono ?_; rintro e w' ⟨rfl, rfl⟩)
            | (at_builtin; refine wpList_append_own _ rfl _ _ 219 rfl w.heap.size 268 i0 (.agg #[.int .u8 0, .string ⟨#[]⟩, .int .i64 0, .bool false]) 4 40 Tryz.underlying219 hi hz0 hz1 hz2 rfl (by decide) _ A.length _ rfl (((HO.out).alloc _).alloc _) ⟨wr.heap.size + 1, 0, none⟩ 1 1 [_, _, _, _] rfl rfl (four_new _ _ _ _ _ _ _ (size1 _ _)) ?h1 ?h63 ?hby ?hbase ?_
               case h1 => intro x hx; simp at hx; rcases hx with rfl | rfl | rfl | rfl <;> rfl
               case h63 => unfold maxLen; omega
               case hby => omega
               case hbase => have := HB.out.size; simp; omega
               intro v' w3 hown' hgrow3 hnil3
               have X : Hid (w3.ownsRow w.heap.size 268 4 v' (A.length + 1) _ ∧ Below w.heap.size w w3) := ⟨hown', Below.grown ((HB.out.alloc HB.out.size _).alloc (by have := HB.out.size; simp; omega) _) hgrow3 (by have := HB.out.size; simp; omega) (fun q hq => (HO.out.lt q hq).1)⟩
               clear hown' hgrow3 hnil3))
          go_roundw
          case rel => exact tokRel_next (n := 1) (by omega) (by omega) hA (by rw [e0]; decide) (by rw [e0]; decide) (by rw [Pn.tok1_sign _ _ (by rw [e0]; decide), e0]; rfl) hno.out X.out.1 X.out.2 _ (by go_num)
          case measure => simp [intOf]; omega
      · -- a sign
        as_aux_lemma =>
          have hsm : Pn.smallB 41 = false := rfl
          have hdg : Pn.digitB 41 = false := rfl
          go_wp2_with (first
            | (go_at_call 207; refine (small_is _ _).mono ?_; rintro e w' ⟨rfl, rfl⟩)
            | (go_at_call 208; refine (digit_is _ _).mono ?_; rintro e w' ⟨rfl, rfl⟩)
            | (at_builtin; refine wpList_append_own _ rfl _ _ 219 rfl w.heap.size 268 i0 (.agg #[.int .u8 0, .string ⟨#[]⟩, .int .i64 0, .bool false]) 4 40 Tryz.underlying219 hi hz0 hz1 hz2 rfl (by decide) _ A.length _ rfl (((HO.out).alloc _).alloc _) ⟨wr.heap.size + 1, 0, none⟩ 1 1 [_, _, _, _] rfl rfl (four_new _ _ _ _ _ _ _ (size1 _ _)) ?h1 ?h63 ?hby ?hbase ?_
               case h1 => intro x hx; simp at hx; rcases hx with rfl | rfl | rfl | rfl <;> rfl
               case h63 => unfold maxLen; omega
               case hby => omega
               case hbase => have := HB.out.size; simp; omega
               intro v' w3 hown' hgrow3 hnil3
               have X : Hid (w3.ownsRow w.heap.size 268 4 v' (A.length + 1) _ ∧ Below w.heap.size w w3) := ⟨hown', Below.grown ((HB.out.alloc HB.out.size _).alloc (by have := HB.out.size; simp; omega) _) hgrow3 (by have := HB.out.size; simp; omega) (fun q hq => (HO.out.lt q hq).1)⟩
               clear hown' hgrow3 hnil3))
          go_roundw
          case rel => exact tokRel_next (n := 1) (by omega) (by omega) hA (by rw [e0]; decide) (by rw [e0]; decide) (by rw [Pn.tok1_sign _ _ (by rw [e0]; decide), e0]; rfl) hno.out X.out.1 X.out.2 _ (by go_num)
          case measure => simp [intOf]; omega
      · -- a sign
        as_aux_lemma =>
          have hsm : Pn.smallB 58 = false := rfl
          have hdg : Pn.digitB 58 = false := rfl
          go_wp2_with (first
            | (go_at_call 207; refine (small_is _ _).mono ?_; rintro e w' ⟨rfl, rfl⟩)
            | (go_at_call 208; refine (digit_is _ _).mono ?_; rintro e w' ⟨rfl, rfl⟩)
            | (at_builtin; refine wpList_append_own _ rfl _ _ 219 rfl w.heap.size 268 i0 (.agg #[.int .u8 0, .string ⟨#[]⟩, .int .i64 0, .bool false]) 4 40 Tryz.underlying219 hi hz0 hz1 hz2 rfl (by decide) _ A.length _ rfl (((HO.out).alloc _).alloc _) ⟨wr.heap.size + 1, 0, none⟩ 1 1 [_, _, _, _] rfl rfl (four_new _ _ _ _ _ _ _ (size1 _ _)) ?h1 ?h63 ?hby ?hbase ?_
               case h1 => intro x hx; simp at hx; rcases hx with rfl | rfl | rfl | rfl <;> rfl
               case h63 => unfold maxLen; omega
               case hby => omega
               case hbase => have := HB.out.size; simp; omega
               intro v' w3 hown' hgrow3 hnil3
               have X : Hid (w3.ownsRow w.heap.size 268 4 v' (A.length + 1) _ ∧ Below w.heap.size w w3) := ⟨hown', Below.grown ((HB.out.alloc HB.out.size _).alloc (by have := HB.out.size; simp; omega) _) hgrow3 (by have := HB.out.size; simp; omega) (fun q hq => (HO.out.lt q hq).1)⟩
               clear hown' hgrow3 hnil3))
          go_roundw
          case rel => exact tokRel_next (n := 1) (by omega) (by omega) hA (by rw [e0]; decide) (by rw [e0]; decide) (by rw [Pn.tok1_sign _ _ (by rw [e0]; decide), e0]; rfl) hno.out X.out.1 X.out.2 _ (by go_num)
          case measure => simp [intOf]; omega
      · -- a sign
        as_aux_lemma =>
          have hsm : Pn.smallB 46 = false := rfl
          have hdg : Pn.digitB 46 = false := rfl
          go_wp2_with (first
            | (go_at_call 207; refine (small_is _ _).mono ?_; rintro e w' ⟨rfl, rfl⟩)
            | (go_at_call 208; refine (digit_is _ _).mono ?_; rintro e w' ⟨rfl, rfl⟩)
            | (at_builtin; refine wpList_append_own _ rfl _ _ 219 rfl w.heap.size 268 i0 (.agg #[.int .u8 0, .string ⟨#[]⟩, .int .i64 0, .bool false]) 4 40 Tryz.underlying219 hi hz0 hz1 hz2 rfl (by decide) _ A.length _ rfl (((HO.out).alloc _).alloc _) ⟨wr.heap.size + 1, 0, none⟩ 1 1 [_, _, _, _] rfl rfl (four_new _ _ _ _ _ _ _ (size1 _ _)) ?h1 ?h63 ?hby ?hbase ?_
               case h1 => intro x hx; simp at hx; rcases hx with rfl | rfl | rfl | rfl <;> rfl
               case h63 => unfold maxLen; omega
               case hby => omega
               case hbase => have := HB.out.size; simp; omega
               intro v' w3 hown' hgrow3 hnil3
               have X : Hid (w3.ownsRow w.heap.size 268 4 v' (A.length + 1) _ ∧ Below w.heap.size w w3) := ⟨hown', Below.grown ((HB.out.alloc HB.out.size _).alloc (by have := HB.out.size; simp; omega) _) hgrow3 (by have := HB.out.size; simp; omega) (fun q hq => (HO.out.lt q hq).1)⟩
               clear hown' hgrow3 hnil3))
          go_roundw
          case rel => exact tokRel_next (n := 1) (by omega) (by omega) hA (by rw [e0]; decide) (by rw [e0]; decide) (by rw [Pn.tok1_sign _ _ (by rw [e0]; decide), e0]; rfl) hno.out X.out.1 X.out.2 _ (by go_num)
          case measure => simp [intOf]; omega
      · -- a minus
        have hsm : Pn.smallB 45 = false := rfl
        have hdg : Pn.digitB 45 = false := rfl
        by_cases hj1 : j + 1 < s.size
        · have hj2 : (j : Int) + 1 < s.size := by omega
          by_cases hmm : Pn.digitB (Pn.B s (j + 1)).toNat = true
          · have hmd := hide (Pn.head_dig s j hj1 hmm)
            as_aux_lemma =>
              go_upto_block 2 with (first
                | (go_at_call 207; refine (small_is _ _).mono ?_; rintro e w' ⟨rfl, rfl⟩)
                | (go_at_call 208; refine (digit_is _ _).mono ?_; rintro e w' ⟨rfl, rfl⟩))
              go_cut [9] (fun n wx => ∃ m d : Nat, n = .int .i64 m ∧ 1 ≤ m ∧ j + m ≤ s.size ∧ Hid (Pn.tok1 (Pn.B s j) (s.data.toList.drop (j + 1)) = some (105, (- Pn.numAt s (j + 1) (j + m)), m - 1)) ∧ (wr.alloc (.cells #[.int .u8 105, .string ⟨#[]⟩, .int .i64 (- Pn.numAt s (j + 1) (j + m)), .bool bl] 268)).drewN d = wx)
              case first =>
                go_wp2_with fail
                go_loopw [9] (fun n wx => ∃ m : Nat, n = .int .i64 m ∧ 1 ≤ m ∧ j + m ≤ s.size ∧ Hid (∀ q, 1 ≤ q → q < m → Pn.dig (Pn.B s (j + q)) = true) ∧ wr.alloc (.cells #[.int .u8 105, .string ⟨#[]⟩, .int .i64 0, .bool bl] 268) = wx) (fun n _ => s.size - (intOf n).toNat)
                case atStart => exact ⟨1, rfl, by omega, by omega, fun q _ _ => by omega, rfl⟩
                case round =>
                  obtain ⟨m, rfl, hm1, hm2, hm3, hw⟩ := hrel
                  subst hw
                  by_cases hlt2 : j + m < s.size
                  · have hlt3 : (j : Int) + m < s.size := by omega
                    by_cases a2 : Pn.digitB (Pn.B s (j + m)).toNat = true
                    · go_wp2_with (first
                      | (go_at_call 207; refine (small_is _ _).mono ?_; rintro e w' ⟨rfl, rfl⟩)
                      | (go_at_call 208; refine (digit_is _ _).mono ?_; rintro e w' ⟨rfl, rfl⟩))
                      go_roundw
                      case rel => exact ⟨m + 1, by go_num, by omega, by omega, Pn.run_more hm3.out a2, by first | rfl | trivial⟩
                      case measure => simp [intOf]; omega
                    · have a2' : Pn.digitB (Pn.B s (j + m)).toNat = false := by simpa using a2
                      clear a2
                      have hrun := hide (Pn.run_len_at Pn.dig s j m hm1 hm2 hm3.out (.inr a2'))
                      by_cases h10 : 11 < m
                      · have h10' : (10 : Int) < (j : Int) + m - ((j : Int) + 1) := by omega
                        go_wp2_with (first
                        | (go_at_call 207; refine (small_is _ _).mono ?_; rintro e w' ⟨rfl, rfl⟩)
                        | (go_at_call 208; refine (digit_is _ _).mono ?_; rintro e w' ⟨rfl, rfl⟩))
                        go_ret2
                        exact ⟨tokOut_none hno.out (by rw [Pn.drop_cons s j hlt]; exact Pn.toks_none _ _ _ (by rw [e0]; decide) (by rw [e0]; decide) (by rw [e0]; exact Pn.tok1_min_long _ hmd.out _ (unhide hrun) (by omega))) rfl, HB.out.alloc HB.out.size _⟩
                      · have h10' : ¬ (10 : Int) < (j : Int) + m - ((j : Int) + 1) := by omega
                        by_cases a3 : Pn.smallB (Pn.B s (j + m)).toNat = true
                        · go_wp2_with (first
                          | (go_at_call 207; refine (small_is _ _).mono ?_; rintro e w' ⟨rfl, rfl⟩)
                          | (go_at_call 208; refine (digit_is _ _).mono ?_; rintro e w' ⟨rfl, rfl⟩))
                          go_ret2
                          exact ⟨tokOut_none hno.out (by rw [Pn.drop_cons s j hlt]; exact Pn.toks_none _ _ _ (by rw [e0]; decide) (by rw [e0]; decide) (by rw [e0]; exact Pn.tok1_min_letter _ hmd.out _ (unhide hrun) (Pn.let_at s j m hm1 hlt2 a3))) rfl, HB.out.alloc HB.out.size _⟩
                        · have a3' : Pn.smallB (Pn.B s (j + m)).toNat = false := by simpa using a3
                          clear a3
                          go_wp2_with (first
                            | (go_at_call 207; refine (small_is _ _).mono ?_; rintro e w' ⟨rfl, rfl⟩)
                            | (go_at_call 208; refine (digit_is _ _).mono ?_; rintro e w' ⟨rfl, rfl⟩))
                          have hds := hide (Pn.digs_min hm3.out)
                          as_aux_lemma =>
                            go_loopw [18] (fun k wx => NumRel s wr bl (j + 1) j m k wx) (fun k _ => j + m - (intOf k).toNat)
                            case atStart => exact ⟨(j + 1), 0, by omega, by omega, by go_num, by rw [Pn.numAt_self]; rfl⟩
                            case round =>
                              obtain ⟨q, d, hq1, hq2, rfl, hw⟩ := hrel
                              subst hw
                              have nb := Pn.numAt_bd10 s (j + 1) q hq1 (by omega) (by omega) (fun q' a b => hds.out q' a (by omega))
                              by_cases hq : q < j + m
                              · have hqs : q < s.size := by omega
                                have hqs2 : (q : Int) < s.size := by omega
                                have hqi : (q : Int) < (j : Int) + m := by omega
                                have cb : ((Pn.B s q).toNat : Int) ≤ 255 := by have := (Pn.B s q).toNat_lt; omega
                                have HS := hide (Pn.numAt_succ s (j + 1) q hq1 hqs)
                                generalize hN : Pn.numAt s (j + 1) q = N at *
                                have HN := hide hN
                                clear hN
                                go_wp2_with fail
                                go_region
                                rw [setTok]
                                go_wp2_with fail
                                go_roundw
                                case rel => exact ⟨q + 1, d + 1, by omega, by omega, by go_num, by rw [unhide HS]⟩
                                case measure => simp [intOf]; omega
                              · have hqi : ¬ (q : Int) < (j : Int) + m := by omega
                                have hqe : q = j + m := by omega
                                subst hqe
                                have hqi2 : ¬ ((j + m : Nat) : Int) < (j : Int) + m := by omega
                                generalize hN : Pn.numAt s (j + 1) (j + m) = N at *
                                have HN := hide hN
                                clear hN
                                go_wp2_with fail
                                go_meet
                                case rel => exact ⟨m, d, rfl, hm1, hm2, (by rw [e0]; exact (Pn.tok1_min _ hmd.out _ (unhide hrun) (by omega) (Pn.let_not s j m hm1 hlt2 a3')).trans (by rw [Pn.numAt_min s j m hm1])), by rw [unhide HN, setTok]⟩

                  · have hlt3 : ¬ (j : Int) + m < s.size := by omega
                    have hrun := hide (Pn.run_len_at Pn.dig s j m hm1 hm2 hm3.out (.inl (by omega)))
                    by_cases h10 : 11 < m
                    · have h10' : (10 : Int) < (j : Int) + m - ((j : Int) + 1) := by omega
                      go_wp2_with (first
                        | (go_at_call 207; refine (small_is _ _).mono ?_; rintro e w' ⟨rfl, rfl⟩)
                        | (go_at_call 208; refine (digit_is _ _).mono ?_; rintro e w' ⟨rfl, rfl⟩))
                      go_ret2
                      exact ⟨tokOut_none hno.out (by rw [Pn.drop_cons s j hlt]; exact Pn.toks_none _ _ _ (by rw [e0]; decide) (by rw [e0]; decide) (by rw [e0]; exact Pn.tok1_min_long _ hmd.out _ (unhide hrun) (by omega))) rfl, HB.out.alloc HB.out.size _⟩
                    · have h10' : ¬ (10 : Int) < (j : Int) + m - ((j : Int) + 1) := by omega
                      go_wp2_with (first
                        | (go_at_call 207; refine (small_is _ _).mono ?_; rintro e w' ⟨rfl, rfl⟩)
                        | (go_at_call 208; refine (digit_is _ _).mono ?_; rintro e w' ⟨rfl, rfl⟩))
                      have hds := hide (Pn.digs_min hm3.out)
                      as_aux_lemma =>
                        go_loopw [18] (fun k wx => NumRel s wr bl (j + 1) j m k wx) (fun k _ => j + m - (intOf k).toNat)
                        case atStart => exact ⟨(j + 1), 0, by omega, by omega, by go_num, by rw [Pn.numAt_self]; rfl⟩
                        case round =>
                          obtain ⟨q, d, hq1, hq2, rfl, hw⟩ := hrel
                          subst hw
                          have nb := Pn.numAt_bd10 s (j + 1) q hq1 (by omega) (by omega) (fun q' a b => hds.out q' a (by omega))
                          by_cases hq : q < j + m
                          · have hqs : q < s.size := by omega
                            have hqs2 : (q : Int) < s.size := by omega
                            have hqi : (q : Int) < (j : Int) + m := by omega
                            have cb : ((Pn.B s q).toNat : Int) ≤ 255 := by have := (Pn.B s q).toNat_lt; omega
                            have HS := hide (Pn.numAt_succ s (j + 1) q hq1 hqs)
                            generalize hN : Pn.numAt s (j + 1) q = N at *
                            have HN := hide hN
                            clear hN
                            go_wp2_with fail
                            go_region
                            rw [setTok]
                            go_wp2_with fail
                            go_roundw
                            case rel => exact ⟨q + 1, d + 1, by omega, by omega, by go_num, by rw [unhide HS]⟩
                            case measure => simp [intOf]; omega
                          · have hqi : ¬ (q : Int) < (j : Int) + m := by omega
                            have hqe : q = j + m := by omega
                            subst hqe
                            have hqi2 : ¬ ((j + m : Nat) : Int) < (j : Int) + m := by omega
                            generalize hN : Pn.numAt s (j + 1) (j + m) = N at *
                            have HN := hide hN
                            clear hN
                            go_wp2_with fail
                            go_meet
                            case rel => exact ⟨m, d, rfl, hm1, hm2, (by rw [e0]; exact (Pn.tok1_min _ hmd.out _ (unhide hrun) (by omega) (Pn.let_end s j m hm1 (by omega))).trans (by rw [Pn.numAt_min s j m hm1])), by rw [unhide HN, setTok]⟩

              case rest => as_aux_lemma =>
                obtain ⟨m, d, rfl, hm1, hm2, hm3, hw⟩ := hcut
                subst hw
                generalize hN : (- Pn.numAt s (j + 1) (j + m)) = N at *
                have HN := hide hN
                clear hN
                go_wp2_with (first
                  | (at_builtin; refine wpList_append_own _ rfl _ _ 219 rfl w.heap.size 268 i0 (.agg #[.int .u8 0, .string ⟨#[]⟩, .int .i64 0, .bool false]) 4 40 Tryz.underlying219 hi hz0 hz1 hz2 rfl (by decide) _ A.length _ rfl ((own_mid HO.out _ d _ _).alloc _) ⟨wr.heap.size + 1, 0, none⟩ 1 1 [_, _, _, _] rfl rfl (four_new _ _ _ _ _ _ _ (size_mid _ _ _ _ _)) ?h1 ?h63 ?hby ?hbase ?_
                     case h1 => intro x hx; simp at hx; rcases hx with rfl | rfl | rfl | rfl <;> rfl
                     case h63 => unfold maxLen; omega
                     case hby => omega
                     case hbase => have := HB.out.size; rw [size1, size_mid]; omega
                     intro v' w3 hown' hgrow3 hnil3
                     have X : Hid (w3.ownsRow w.heap.size 268 4 v' (A.length + 1) _ ∧ Below w.heap.size w w3) := ⟨hown', Below.grown (((below_drewN (HB.out.alloc HB.out.size _) d).setCell HB.out.size _).alloc (by have := HB.out.size; rw [size_mid]; omega) _) hgrow3 (by have := HB.out.size; rw [size1, size_mid]; omega) (fun q hq => (HO.out.lt q hq).1)⟩
                     clear hown' hgrow3 hnil3))
                go_roundw
                case rel => exact tokRel_next (n := m) (by omega) (by omega) hA (by rw [e0]; decide) (by rw [e0]; decide) hm3.out hno.out X.out.1 X.out.2 _ (by go_num)
                case measure => simp [intOf]; omega
          · have hmm' : Pn.digitB (Pn.B s (j + 1)).toNat = false := by simpa using hmm
            clear hmm
            as_aux_lemma =>
              go_wp2_with (first
                | (go_at_call 207; refine (small_is _ _).mono ?_; rintro e w' ⟨rfl, rfl⟩)
                | (go_at_call 208; refine (digit_is _ _).mono ?_; rintro e w' ⟨rfl, rfl⟩))
              go_ret2
              exact ⟨tokOut_none hno.out (by rw [Pn.drop_cons s j hlt]; exact Pn.toks_none _ _ _ (by rw [e0]; decide) (by rw [e0]; decide) (by rw [e0]; exact Pn.tok1_bad _ _ rfl rfl (fun h => by rw [Pn.head_at s (j + 1) hj1] at h; have := h.2; simp [Pn.dig, hmm'] at this) (by decide))) rfl, HB.out.alloc HB.out.size _⟩
        · have hj2 : ¬ (j : Int) + 1 < s.size := by omega
          as_aux_lemma =>
            go_wp2_with (first
              | (go_at_call 207; refine (small_is _ _).mono ?_; rintro e w' ⟨rfl, rfl⟩)
              | (go_at_call 208; refine (digit_is _ _).mono ?_; rintro e w' ⟨rfl, rfl⟩))
            go_ret2
            exact ⟨tokOut_none hno.out (by rw [Pn.drop_cons s j hlt]; exact Pn.toks_none _ _ _ (by rw [e0]; decide) (by rw [e0]; decide) (by rw [e0]; exact Pn.tok1_bad _ _ rfl rfl (fun h => by rw [Pn.head_end s (j + 1) (by omega)] at h; have := h.2; simp at this) (by decide))) rfl, HB.out.alloc HB.out.size _⟩
      · -- any other byte
        obtain ⟨n35, n32, n9, n44, n40, n41, n58, n46, n45, m35, m32, m44, m45⟩ := e0
        by_cases hsm : Pn.smallB (Pn.B s j).toNat = true
        · -- a word
          as_aux_lemma =>
            go_upto_block 2 with (first
              | (go_at_call 207; refine (small_is _ _).mono ?_; rintro e w' ⟨rfl, rfl⟩)
              | (go_at_call 208; refine (digit_is _ _).mono ?_; rintro e w' ⟨rfl, rfl⟩))
            go_cut [9] (fun n wx => ∃ m : Nat, n = .int .i64 m ∧ 1 ≤ m ∧ j + m ≤ s.size ∧ Hid (Pn.tok1 (Pn.B s j) (s.data.toList.drop (j + 1)) = some (119, 0, m - 1)) ∧ wr.alloc (.cells #[.int .u8 119, .string ⟨#[]⟩, .int .i64 0, .bool bl] 268) = wx)
            case first =>
              go_wp2_with fail
              go_loopw [9] (fun n wx => ∃ m : Nat, n = .int .i64 m ∧ 1 ≤ m ∧ j + m ≤ s.size ∧ Hid (∀ q, 1 ≤ q → q < m → Pn.alnum (Pn.B s (j + q)) = true) ∧ wr.alloc (.cells #[.int .u8 119, .string ⟨#[]⟩, .int .i64 0, .bool bl] 268) = wx) (fun n _ => s.size - (intOf n).toNat)
              case atStart => exact ⟨1, rfl, by omega, by omega, fun q _ _ => by omega, rfl⟩
              case round =>
                obtain ⟨m, rfl, hm1, hm2, hm3, hw⟩ := hrel
                subst hw
                by_cases hlt2 : j + m < s.size
                · have hlt3 : (j : Int) + m < s.size := by omega
                  by_cases a1 : Pn.smallB (Pn.B s (j + m)).toNat = true
                  · go_wp2_with (first
                      | (go_at_call 207; refine (small_is _ _).mono ?_; rintro e w' ⟨rfl, rfl⟩)
                      | (go_at_call 208; refine (digit_is _ _).mono ?_; rintro e w' ⟨rfl, rfl⟩))
                    go_roundw
                    case rel => exact ⟨m + 1, by go_num, by omega, by omega, Pn.run_more hm3.out (by unfold Pn.alnum; rw [a1]; rfl), by first | rfl | trivial⟩
                    case measure => simp [intOf]; omega
                  · have a1' : Pn.smallB (Pn.B s (j + m)).toNat = false := by simpa using a1
                    clear a1
                    by_cases a2 : Pn.digitB (Pn.B s (j + m)).toNat = true
                    · go_wp2_with (first
                        | (go_at_call 207; refine (small_is _ _).mono ?_; rintro e w' ⟨rfl, rfl⟩)
                        | (go_at_call 208; refine (digit_is _ _).mono ?_; rintro e w' ⟨rfl, rfl⟩))
                      go_roundw
                      case rel => exact ⟨m + 1, by go_num, by omega, by omega, Pn.run_more hm3.out (by unfold Pn.alnum; rw [a2, a1']; rfl), by first | rfl | trivial⟩
                      case measure => simp [intOf]; omega
                    · have a2' : Pn.digitB (Pn.B s (j + m)).toNat = false := by simpa using a2
                      clear a2
                      go_wp2_with (first
                        | (go_at_call 207; refine (small_is _ _).mono ?_; rintro e w' ⟨rfl, rfl⟩)
                        | (go_at_call 208; refine (digit_is _ _).mono ?_; rintro e w' ⟨rfl, rfl⟩))
                      go_meet
                      case rel => exact ⟨m, rfl, hm1, hm2, Pn.tok1_word _ _ hsm _ (Pn.run_len_at _ s j m hm1 hm2 hm3.out (.inr (by unfold Pn.alnum; rw [a1', a2']; rfl))), rfl⟩
                · have hlt3 : ¬ (j : Int) + m < s.size := by omega
                  go_wp2_with (first
                    | (go_at_call 207; refine (small_is _ _).mono ?_; rintro e w' ⟨rfl, rfl⟩)
                    | (go_at_call 208; refine (digit_is _ _).mono ?_; rintro e w' ⟨rfl, rfl⟩))
                  go_meet
                  case rel => exact ⟨m, rfl, hm1, hm2, Pn.tok1_word _ _ hsm _ (Pn.run_len_at _ s j m hm1 hm2 hm3.out (.inl (by omega))), rfl⟩
            case rest =>
              obtain ⟨m, rfl, hm1, hm2, hm3, hw⟩ := hcut
              subst hw
              go_wp2_with (first
                | (go_at_call 207; refine (small_is _ _).mono ?_; rintro e w' ⟨rfl, rfl⟩)
                | (go_at_call 208; refine (digit_is _ _).mono ?_; rintro e w' ⟨rfl, rfl⟩)
                | (at_builtin; refine wpList_append_own _ rfl _ _ 219 rfl w.heap.size 268 i0 (.agg #[.int .u8 0, .string ⟨#[]⟩, .int .i64 0, .bool false]) 4 40 Tryz.underlying219 hi hz0 hz1 hz2 rfl (by decide) _ A.length _ rfl (((HO.out).alloc _).alloc _) ⟨wr.heap.size + 1, 0, none⟩ 1 1 [_, _, _, _] rfl rfl (four_new _ _ _ _ _ _ _ (size1 _ _)) ?h1 ?h63 ?hby ?hbase ?_
                   case h1 => intro x hx; simp at hx; rcases hx with rfl | rfl | rfl | rfl <;> rfl
                   case h63 => unfold maxLen; omega
                   case hby => omega
                   case hbase => have := HB.out.size; simp; omega
                   intro v' w3 hown' hgrow3 hnil3
                   have X : Hid (w3.ownsRow w.heap.size 268 4 v' (A.length + 1) _ ∧ Below w.heap.size w w3) := ⟨hown', Below.grown ((HB.out.alloc HB.out.size _).alloc (by have := HB.out.size; simp; omega) _) hgrow3 (by have := HB.out.size; simp; omega) (fun q hq => (HO.out.lt q hq).1)⟩
                   clear hown' hgrow3 hnil3))
              go_roundw
              case rel => exact tokRel_next (n := m) (by omega) (by omega) hA m35.out m32.out hm3.out hno.out X.out.1 X.out.2 _ (by go_num)
              case measure => simp [intOf]; omega
        · have hsm' : Pn.smallB (Pn.B s j).toNat = false := by simpa using hsm
          clear hsm
          by_cases hdg : Pn.digitB (Pn.B s j).toNat = true
          · -- a number
            as_aux_lemma =>
              go_upto_block 2 with (first
                | (go_at_call 207; refine (small_is _ _).mono ?_; rintro e w' ⟨rfl, rfl⟩)
                | (go_at_call 208; refine (digit_is _ _).mono ?_; rintro e w' ⟨rfl, rfl⟩))
              go_cut [9] (fun n wx => ∃ m d : Nat, n = .int .i64 m ∧ 1 ≤ m ∧ j + m ≤ s.size ∧ Hid (Pn.tok1 (Pn.B s j) (s.data.toList.drop (j + 1)) = some (105, (Pn.numAt s j (j + m)), m - 1)) ∧ (wr.alloc (.cells #[.int .u8 105, .string ⟨#[]⟩, .int .i64 (Pn.numAt s j (j + m)), .bool bl] 268)).drewN d = wx)
              case first =>
                go_wp2_with fail
                go_loopw [9] (fun n wx => ∃ m : Nat, n = .int .i64 m ∧ 1 ≤ m ∧ j + m ≤ s.size ∧ Hid (∀ q, 1 ≤ q → q < m → Pn.dig (Pn.B s (j + q)) = true) ∧ wr.alloc (.cells #[.int .u8 105, .string ⟨#[]⟩, .int .i64 0, .bool bl] 268) = wx) (fun n _ => s.size - (intOf n).toNat)
                case atStart => exact ⟨1, rfl, by omega, by omega, fun q _ _ => by omega, rfl⟩
                case round =>
                  obtain ⟨m, rfl, hm1, hm2, hm3, hw⟩ := hrel
                  subst hw
                  by_cases hlt2 : j + m < s.size
                  · have hlt3 : (j : Int) + m < s.size := by omega
                    by_cases a2 : Pn.digitB (Pn.B s (j + m)).toNat = true
                    · go_wp2_with (first
                      | (go_at_call 207; refine (small_is _ _).mono ?_; rintro e w' ⟨rfl, rfl⟩)
                      | (go_at_call 208; refine (digit_is _ _).mono ?_; rintro e w' ⟨rfl, rfl⟩))
                      go_roundw
                      case rel => exact ⟨m + 1, by go_num, by omega, by omega, Pn.run_more hm3.out a2, by first | rfl | trivial⟩
                      case measure => simp [intOf]; omega
                    · have a2' : Pn.digitB (Pn.B s (j + m)).toNat = false := by simpa using a2
                      clear a2
                      have hrun := hide (Pn.run_len_at Pn.dig s j m hm1 hm2 hm3.out (.inr a2'))
                      by_cases h10 : 10 < m
                      · have h10' : (10 : Int) < (j : Int) + m - j := by omega
                        go_wp2_with (first
                        | (go_at_call 207; refine (small_is _ _).mono ?_; rintro e w' ⟨rfl, rfl⟩)
                        | (go_at_call 208; refine (digit_is _ _).mono ?_; rintro e w' ⟨rfl, rfl⟩))
                        go_ret2
                        exact ⟨tokOut_none hno.out (by rw [Pn.drop_cons s j hlt]; exact Pn.toks_none _ _ _ m35.out m32.out (Pn.tok1_dig_long _ _ hsm' hdg _ (unhide hrun) (by omega))) rfl, HB.out.alloc HB.out.size _⟩
                      · have h10' : ¬ (10 : Int) < (j : Int) + m - j := by omega
                        by_cases a3 : Pn.smallB (Pn.B s (j + m)).toNat = true
                        · go_wp2_with (first
                          | (go_at_call 207; refine (small_is _ _).mono ?_; rintro e w' ⟨rfl, rfl⟩)
                          | (go_at_call 208; refine (digit_is _ _).mono ?_; rintro e w' ⟨rfl, rfl⟩))
                          go_ret2
                          exact ⟨tokOut_none hno.out (by rw [Pn.drop_cons s j hlt]; exact Pn.toks_none _ _ _ m35.out m32.out (Pn.tok1_dig_letter _ _ hsm' hdg _ (unhide hrun) (Pn.let_at s j m hm1 hlt2 a3))) rfl, HB.out.alloc HB.out.size _⟩
                        · have a3' : Pn.smallB (Pn.B s (j + m)).toNat = false := by simpa using a3
                          clear a3
                          go_wp2_with (first
                            | (go_at_call 207; refine (small_is _ _).mono ?_; rintro e w' ⟨rfl, rfl⟩)
                            | (go_at_call 208; refine (digit_is _ _).mono ?_; rintro e w' ⟨rfl, rfl⟩))
                          have hds := hide (Pn.digs_all hdg hm3.out)
                          as_aux_lemma =>
                            go_loopw [18] (fun k wx => NumRel s wr bl j j m k wx) (fun k _ => j + m - (intOf k).toNat)
                            case atStart => exact ⟨j, 0, by omega, by omega, by go_num, by rw [Pn.numAt_self]; rfl⟩
                            case round =>
                              obtain ⟨q, d, hq1, hq2, rfl, hw⟩ := hrel
                              subst hw
                              have nb := Pn.numAt_bd10 s j q hq1 (by omega) (by omega) (fun q' a b => hds.out q' a (by omega))
                              by_cases hq : q < j + m
                              · have hqs : q < s.size := by omega
                                have hqs2 : (q : Int) < s.size := by omega
                                have hqi : (q : Int) < (j : Int) + m := by omega
                                have cb : ((Pn.B s q).toNat : Int) ≤ 255 := by have := (Pn.B s q).toNat_lt; omega
                                have HS := hide (Pn.numAt_succ s j q hq1 hqs)
                                generalize hN : Pn.numAt s j q = N at *
                                have HN := hide hN
                                clear hN
                                go_wp2_with fail
                                go_region
                                rw [setTok]
                                go_wp2_with fail
                                go_roundw
                                case rel => exact ⟨q + 1, d + 1, by omega, by omega, by go_num, by rw [unhide HS]⟩
                                case measure => simp [intOf]; omega
                              · have hqi : ¬ (q : Int) < (j : Int) + m := by omega
                                have hqe : q = j + m := by omega
                                subst hqe
                                have hqi2 : ¬ ((j + m : Nat) : Int) < (j : Int) + m := by omega
                                generalize hN : Pn.numAt s j (j + m) = N at *
                                have HN := hide hN
                                clear hN
                                go_wp2_with fail
                                go_meet
                                case rel => exact ⟨m, d, rfl, hm1, hm2, ((Pn.tok1_dig _ _ hsm' hdg _ (unhide hrun) (by omega) (Pn.let_not s j m hm1 hlt2 a3')).trans (by rw [Pn.numAt_first s j m hlt hm1])), by rw [unhide HN]⟩

                  · have hlt3 : ¬ (j : Int) + m < s.size := by omega
                    have hrun := hide (Pn.run_len_at Pn.dig s j m hm1 hm2 hm3.out (.inl (by omega)))
                    by_cases h10 : 10 < m
                    · have h10' : (10 : Int) < (j : Int) + m - j := by omega
                      go_wp2_with (first
                        | (go_at_call 207; refine (small_is _ _).mono ?_; rintro e w' ⟨rfl, rfl⟩)
                        | (go_at_call 208; refine (digit_is _ _).mono ?_; rintro e w' ⟨rfl, rfl⟩))
                      go_ret2
                      exact ⟨tokOut_none hno.out (by rw [Pn.drop_cons s j hlt]; exact Pn.toks_none _ _ _ m35.out m32.out (Pn.tok1_dig_long _ _ hsm' hdg _ (unhide hrun) (by omega))) rfl, HB.out.alloc HB.out.size _⟩
                    · have h10' : ¬ (10 : Int) < (j : Int) + m - j := by omega
                      go_wp2_with (first
                        | (go_at_call 207; refine (small_is _ _).mono ?_; rintro e w' ⟨rfl, rfl⟩)
                        | (go_at_call 208; refine (digit_is _ _).mono ?_; rintro e w' ⟨rfl, rfl⟩))
                      have hds := hide (Pn.digs_all hdg hm3.out)
                      as_aux_lemma =>
                        go_loopw [18] (fun k wx => NumRel s wr bl j j m k wx) (fun k _ => j + m - (intOf k).toNat)
                        case atStart => exact ⟨j, 0, by omega, by omega, by go_num, by rw [Pn.numAt_self]; rfl⟩
                        case round =>
                          obtain ⟨q, d, hq1, hq2, rfl, hw⟩ := hrel
                          subst hw
                          have nb := Pn.numAt_bd10 s j q hq1 (by omega) (by omega) (fun q' a b => hds.out q' a (by omega))
                          by_cases hq : q < j + m
                          · have hqs : q < s.size := by omega
                            have hqs2 : (q : Int) < s.size := by omega
                            have hqi : (q : Int) < (j : Int) + m := by omega
                            have cb : ((Pn.B s q).toNat : Int) ≤ 255 := by have := (Pn.B s q).toNat_lt; omega
                            have HS := hide (Pn.numAt_succ s j q hq1 hqs)
                            generalize hN : Pn.numAt s j q = N at *
                            have HN := hide hN
                            clear hN
                            go_wp2_with fail
                            go_region
                            rw [setTok]
                            go_wp2_with fail
                            go_roundw
                            case rel => exact ⟨q + 1, d + 1, by omega, by omega, by go_num, by rw [unhide HS]⟩
                            case measure => simp [intOf]; omega
                          · have hqi : ¬ (q : Int) < (j : Int) + m := by omega
                            have hqe : q = j + m := by omega
                            subst hqe
                            have hqi2 : ¬ ((j + m : Nat) : Int) < (j : Int) + m := by omega
                            generalize hN : Pn.numAt s j (j + m) = N at *
                            have HN := hide hN
                            clear hN
                            go_wp2_with fail
                            go_meet
                            case rel => exact ⟨m, d, rfl, hm1, hm2, ((Pn.tok1_dig _ _ hsm' hdg _ (unhide hrun) (by omega) (Pn.let_end s j m hm1 (by omega))).trans (by rw [Pn.numAt_first s j m hlt hm1])), by rw [unhide HN]⟩

              case rest => as_aux_lemma =>
                obtain ⟨m, d, rfl, hm1, hm2, hm3, hw⟩ := hcut
                subst hw
                generalize hN : (Pn.numAt s j (j + m)) = N at *
                have HN := hide hN
                clear hN
                go_wp2_with (first
                  | (at_builtin; refine wpList_append_own _ rfl _ _ 219 rfl w.heap.size 268 i0 (.agg #[.int .u8 0, .string ⟨#[]⟩, .int .i64 0, .bool false]) 4 40 Tryz.underlying219 hi hz0 hz1 hz2 rfl (by decide) _ A.length _ rfl ((own_mid HO.out _ d _ _).alloc _) ⟨wr.heap.size + 1, 0, none⟩ 1 1 [_, _, _, _] rfl rfl (four_new _ _ _ _ _ _ _ (size_mid _ _ _ _ _)) ?h1 ?h63 ?hby ?hbase ?_
                     case h1 => intro x hx; simp at hx; rcases hx with rfl | rfl | rfl | rfl <;> rfl
                     case h63 => unfold maxLen; omega
                     case hby => omega
                     case hbase => have := HB.out.size; rw [size1, size_mid]; omega
                     intro v' w3 hown' hgrow3 hnil3
                     have X : Hid (w3.ownsRow w.heap.size 268 4 v' (A.length + 1) _ ∧ Below w.heap.size w w3) := ⟨hown', Below.grown (((below_drewN (HB.out.alloc HB.out.size _) d).setCell HB.out.size _).alloc (by have := HB.out.size; rw [size_mid]; omega) _) hgrow3 (by have := HB.out.size; rw [size1, size_mid]; omega) (fun q hq => (HO.out.lt q hq).1)⟩
                     clear hown' hgrow3 hnil3))
                go_roundw
                case rel => exact tokRel_next (n := m) (by omega) (by omega) hA m35.out m32.out hm3.out hno.out X.out.1 X.out.2 _ (by go_num)
                case measure => simp [intOf]; omega
          · have hdg' : Pn.digitB (Pn.B s j).toNat = false := by simpa using hdg
            clear hdg
            as_aux_lemma =>
              go_wp2_with (first
                | (go_at_call 207; refine (small_is _ _).mono ?_; rintro e w' ⟨rfl, rfl⟩)
                | (go_at_call 208; refine (digit_is _ _).mono ?_; rintro e w' ⟨rfl, rfl⟩))
              go_ret2
              exact ⟨tokOut_none hno.out (by rw [Pn.drop_cons s j hlt]; exact Pn.toks_none _ _ _ m35.out m32.out (Pn.tok1_bad _ _ hsm' hdg' (fun h => m45.out h.1) m44.out)) rfl, HB.out.alloc HB.out.size _⟩
    · go_wp2_with fail
      go_ret2
      exact ⟨tokOut_end hno.out (by rw [List.drop_eq_nil_of_le (by simp; omega)]; exact Pn.toks_nil _) HO.out rfl, HB.out⟩

end Go.Proofs.YtbmcofdodfcnnaaGreatDoor
