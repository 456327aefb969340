import Derived.Test.YtbmcofdodfcnnaaGreatDoorGXC
import Derived.Test.YtbmcofdodfcnnaaGreatDoorGNN
import Derived.Test.YtbmcofdodfcnnaaGreatDoorGAW
/-
  Plain: the text of bytes, assembled, is these bytes.
-/
namespace Pn
open Go
theorem idx_at : ∀ (T r : List UInt8) (c : UInt8), (∀ x ∈ T, x ≠ c) → Lib.index (T ++ c :: r) [c] = T.length
  | [], r, c, _ => by simp [Lib.index]
  | x :: T, r, c, h => by
    have hx : x ≠ c := h x (by simp)
    have ih := idx_at T r c (fun y hy => h y (by simp [hy]))
    simp only [List.cons_append]
    unfold Lib.index
    simp [ih]
    exact fun e => absurd e.symm hx
theorem split_text : ∀ Ts : List (List UInt8), (∀ T ∈ Ts, ∀ c ∈ T, c ≠ 10) → Lib.splitK [10] 0 (Lib.count (Ts.flatMap (· ++ [10])) [10]) (Ts.flatMap (· ++ [10])) = Ts ++ [[]]
  | [], _ => by
    rw [Lib.count_one]
    rfl
  | T :: Ts, h => by
    have ih := split_text Ts (fun S hS => h S (by simp [hS]))
    have e : (T :: Ts).flatMap (· ++ [10]) = T ++ 10 :: Ts.flatMap (· ++ [10]) := by simp
    have hT : ∀ c ∈ T, c ≠ 10 := h T (by simp)
    have hc : Lib.count (T ++ 10 :: Ts.flatMap (· ++ [10])) [10] = Lib.count (Ts.flatMap (· ++ [10])) [10] + 1 := by
      rw [Lib.count_one, Lib.count_one, List.count_append, List.count_cons_self, List.count_eq_zero.2 (fun hm => hT 10 hm rfl)]
      omega
    rw [e, hc, Lib.splitK, idx_at T _ 10 hT]
    rw [if_neg (by simp)]
    have e2 : (T ++ 10 :: Ts.flatMap (· ++ [10])).drop ((T.length : Int).toNat + ([10] : List UInt8).length) = Ts.flatMap (· ++ [10]) := by simp
    rw [e2, ih]
    simp
theorem shwC_plain (l : List UInt8) : ∀ c ∈ shwC (chk l), c ≠ 10 := by
  have hshw : ∀ i : Ins, ∀ c ∈ (shw i).1, c ≠ 10 := fun i => by
    by_cases h : right i = true
    · obtain ⟨k, hk, ho⟩ := right_op h
      obtain ⟨op, rd, rs1, rs2, imm⟩ := i
      simp only at ho
      subst ho
      rw [shw_yes h]
      exact fun c hc => (plain_text k hk ⟨k + 1, rd, rs1, rs2, imm⟩ (kinds_ok k hk) c hc).1
    · rw [shw_not (by simpa using h)]; simp
  intro c hc
  unfold shwC at hc
  split at hc
  · exact hshw _ c hc
  · split at hc
    · rcases List.mem_append.1 hc with h | h
      · have e : c = 99 ∨ c = 46 := by simpa using h
        rcases e with rfl | rfl <;> decide
      · exact hshw _ c h
    · split at hc
      · rcases List.mem_append.1 hc with h | h
        · simp only [List.mem_cons, List.not_mem_nil, or_false] at h
          rcases h with rfl | rfl | rfl | rfl | rfl | rfl <;> decide
        · exact (plain_itoa _ c h).1
      · rcases List.mem_append.1 hc with h | h
        · simp only [List.mem_cons, List.not_mem_nil, or_false] at h
          rcases h with rfl | rfl | rfl | rfl | rfl | rfl <;> decide
        · exact (plain_itoa _ c h).1
end Pn
namespace Go.Proofs.YtbmcofdodfcnnaaGreatDoor
open Go.RowKit Go.Maps
theorem chkF_mem : ∀ (n k : Nat) (l : List UInt8) (x : CK), x ∈ chkF n k l → ∃ l', l' ≠ [] ∧ x.1.2 = Pn.chk l'
  | 0, _, _, x, h => by simp [chkF] at h
  | n + 1, k, l, x, h => by
    by_cases hl : l = []
    · simp [chkF, hl] at h
    · simp only [chkF, dif_neg hl] at h
      rcases List.mem_cons.1 h with rfl | h
      · exact ⟨l, hl, rfl⟩
      · exact chkF_mem n _ _ x h
theorem chkF_bytes : ∀ (n k : Nat) (l : List UInt8), l.length ≤ n → (chkF n k l).flatMap (fun x => Pn.bysP (Pn.partOf x.1.2)) = l
  | 0, k, l, h => by
    have : l = [] := List.eq_nil_of_length_eq_zero (by omega)
    rw [this]; rfl
  | n + 1, k, l, h => by
    by_cases hl : l = []
    · simp [chkF, hl]
    · have hb := Pn.bysP_chk l hl
      simp only [chkF, dif_neg hl, List.flatMap_cons]
      rw [chkF_bytes n _ _ (by simp; omega), hb.1, List.take_append_drop]
/-- the parts of the text of chunks -/
def qOf (xs : List CK) : List Pn.Qt := xs.mapIdx fun j x => ⟨Pn.partOf x.1.2, (j : Int) + 1, 0⟩
def ChL (xs : List CK) : Prop := ∀ x ∈ xs, ∃ l', l' ≠ [] ∧ x.1.2 = Pn.chk l'
def txts (xs : List CK) : List (List UInt8) := xs.map (fun x => Pn.shwC x.1.2) ++ [[]]
theorem rupto_txt (xs : List CK) (h : ChL xs) : ∀ j, j ≤ xs.length → Pn.rupto (txts xs) j = (qOf (xs.take j), [])
  | 0, _ => by simp [Pn.rupto, qOf]
  | j + 1, hj => by
    have ih := rupto_txt xs h j (by omega)
    obtain ⟨x, hx⟩ : ∃ x, xs[j]? = some x := ⟨_, List.getElem?_eq_getElem (by omega)⟩
    obtain ⟨l', hl', hc⟩ := h x (List.mem_of_getElem? hx)
    have hg : (txts xs).getD j [] = Pn.shwC (Pn.chk l') := by
      rw [← hc]
      simp [txts, List.getD, List.getElem?_append_left (show j < (xs.map (fun x => Pn.shwC x.1.2)).length by simp; omega), hx]
    have hr := Pn.chk_line l' hl'
    rw [Pn.rupto, ih, hg]
    simp only [Pn.addP, hr, if_true]
    have ht : xs.take (j + 1) = xs.take j ++ [x] := by
      rw [List.take_succ_eq_append_getElem (by omega)]
      congr 1
      rw [List.getElem?_eq_some_iff] at hx
      simp [hx.2]
    rw [ht]
    have hlen : (xs.take j).length = j := by simp; omega
    simp [qOf, List.mapIdx_append, hlen, hc]
theorem lerr_txt (xs : List CK) (h : ChL xs) (j : Nat) (hj : j ≤ xs.length) : Pn.lerr (txts xs) j = 0 := by
  unfold Pn.lerr
  rw [rupto_txt xs h j hj]
  rcases Nat.lt_or_ge j xs.length with hlt | hge
  · obtain ⟨x, hx⟩ : ∃ x, xs[j]? = some x := ⟨_, List.getElem?_eq_getElem (by omega)⟩
    obtain ⟨l', hl', hc⟩ := h x (List.mem_of_getElem? hx)
    have hg : (txts xs).getD j [] = Pn.shwC (Pn.chk l') := by
      rw [← hc]
      simp [txts, List.getD, List.getElem?_append_left (show j < (xs.map (fun x => Pn.shwC x.1.2)).length by simp; omega), hx]
    rw [hg]
    simp [Pn.addP, Pn.chk_line l' hl']
  · have e : j = xs.length := by omega
    subst e
    have hg : (txts xs).getD xs.length [] = [] := by simp [txts, List.getD]
    rw [hg]
    simp [Pn.addP, Pn.rline_nil]
theorem qOf_at {xs : List CK} {k : Nat} {q : Pn.Qt} (h : (qOf xs)[k]? = some q) : ∃ x, xs[k]? = some x ∧ q.p = Pn.partOf x.1.2 := by
  simp only [qOf, List.getElem?_mapIdx, Option.map_eq_some_iff] at h
  obtain ⟨x, hx, rfl⟩ := h
  exact ⟨x, hx, rfl⟩
theorem qOf_tg {xs : List CK} (h : ChL xs) {k : Nat} {q : Pn.Qt} (hq : (qOf xs)[k]? = some q) : q.p.tg = [] := by
  obtain ⟨x, hx, e⟩ := qOf_at hq
  obtain ⟨l', hl', hc⟩ := h x (List.mem_of_getElem? hx)
  rw [e, hc]
  exact (Pn.bysP_chk l' hl').2.2.2.1
theorem rdP_txt (xs : List CK) (h : ChL xs) : Pn.rdP (txts xs) = (0, 0, qOf xs, []) := by
  have hl : (txts xs).length = xs.length + 1 := by simp [txts]
  have hu : Pn.rupto (txts xs) (txts xs).length = (qOf xs, []) := by
    rw [hl, Pn.rupto, rupto_txt xs h xs.length (Nat.le_refl _)]
    have hg : (txts xs).getD xs.length [] = [] := by simp [txts, List.getD]
    rw [hg]
    simp [Pn.addP, Pn.rline_nil]
  unfold Pn.rdP
  rw [Pn.find_none _ _ (fun j hj => by rw [lerr_txt xs h j (by omega)]; rfl)]
  simp only [hu]
  rw [Pn.find_none _ _ (fun k hk => by
    obtain ⟨q, hq⟩ : ∃ q, (qOf xs)[k]? = some q := ⟨_, List.getElem?_eq_getElem hk⟩
    simp only [Pn.noTg, hq, qOf_tg h hq]
    rfl)]
theorem byqs_take {P : List Int} {N : List (List UInt8 × Nat)} {L : List Pn.Qt} {g : Nat → List UInt8} (h : ∀ (k : Nat) (x : Pn.Qt), L[k]? = some x → Pn.byq P N k x = some (g k) ∧ ((g k).length : Int) = x.size) : ∀ j, j ≤ L.length → Pn.byqs P N L j = (List.range j).flatMap g ∧ Pn.plq L j = ((List.range j).flatMap g).length
  | 0, _ => by simp [Pn.byqs, Pn.plq]
  | j + 1, hj => by
    obtain ⟨x, hx⟩ : ∃ x, L[j]? = some x := ⟨_, List.getElem?_eq_getElem (by omega)⟩
    obtain ⟨h1, h2⟩ := h j x hx
    obtain ⟨i1, i2⟩ := byqs_take h j (by omega)
    rw [List.range_succ, List.flatMap_append]
    constructor
    · simp only [Pn.byqs, hx, h1, i1]
      simp
    · simp only [Pn.plq, hx, i2, List.length_append]
      simp [h2]
def bAt {α : Type} (f : α → List UInt8) (xs : List α) (k : Nat) : List UInt8 := match xs[k]? with | some x => f x | none => []
theorem bAt_some {α : Type} {f : α → List UInt8} {xs : List α} {k : Nat} {x : α} (h : xs[k]? = some x) : bAt f xs k = f x := by simp [bAt, h]
theorem flat_range {α : Type} (xs : List α) (f : α → List UInt8) : (List.range xs.length).flatMap (bAt f xs) = xs.flatMap f := by
  induction xs with
  | nil => simp
  | cons x xs ih =>
    rw [List.length_cons, List.range_succ_eq_map, List.flatMap_cons, List.flatMap_map]
    rw [List.flatMap_cons, bAt_some (x := x) rfl, ← ih]
    congr 1
/-- the text of chunks, assembled -/
theorem asm_txt (xs : List CK) (h : ChL xs) (bs : List UInt8) (hb : xs.flatMap (fun x => Pn.bysP (Pn.partOf x.1.2)) = bs) (hl : bs.length ≤ 1024) : Pn.asmP (txts xs) false = (bs, 0, 0) := by
  have hlen : (qOf xs).length = xs.length := by simp [qOf]
  have hd : ∀ x ∈ qOf xs, x.p.data.length ≤ 4 := fun x hx => by
    obtain ⟨k, hk⟩ := List.getElem?_of_mem hx
    obtain ⟨y, hy, e⟩ := qOf_at hk
    obtain ⟨l', hl', hc⟩ := h y (List.mem_of_getElem? hy)
    have hb := Pn.bysP_chk l' hl'
    have hok := (chk_ok l' hl').1.2
    rw [e, hc]
    by_cases hz : (Pn.partOf (Pn.chk l')).data = []
    · rw [hz]; simp
    · rw [hb.2.2.2.2.2 hz]; rcases hok with e | e | e <;> omega
  have hS := Pn.fszs_ok (short := false) hd
  have hL : (Pn.fszs false (qOf xs) (qOf xs).length).length = xs.length := by rw [Pn.fszs_len, hlen]
  have hat : ∀ (k : Nat) (x : Pn.Qt), (Pn.fszs false (qOf xs) (qOf xs).length)[k]? = some x → ∃ y, xs[k]? = some y ∧ x.p = Pn.partOf y.1.2 ∧ x.size = Pn.fsz false x.p := fun k x hk => by
    obtain ⟨q, hq⟩ := Pn.at_len (Pn.fszs_len false (qOf xs) (qOf xs).length) hk
    rw [Pn.fszs_at hq, if_pos (List.getElem?_eq_some_iff.1 hq).1] at hk
    obtain ⟨y, hy, e⟩ := qOf_at hq
    cases hk
    exact ⟨y, hy, e, rfl⟩
  have htg : ∀ (k : Nat) (x : Pn.Qt), (Pn.fszs false (qOf xs) (qOf xs).length)[k]? = some x → x.p.tg = [] := fun k x hk => by
    obtain ⟨y, hy, e, _⟩ := hat k x hk
    obtain ⟨l', hl', hc⟩ := h y (List.mem_of_getElem? hy)
    rw [e, hc]
    exact (Pn.bysP_chk l' hl').2.2.2.1
  have hdone : Pn.done [] (Pn.rnds [] 0 (Pn.fszs false (qOf xs) (qOf xs).length)) := by
    unfold Pn.done Pn.anyG
    rw [List.any_eq_false]
    intro k hk
    simp only [Pn.rnds]
    cases hx : (Pn.fszs false (qOf xs) (qOf xs).length)[k]? with
    | none => simp
    | some x => simp [Pn.mustG, htg k x hx]
  have hlay : Pn.layF [] (Pn.fszs false (qOf xs) (qOf xs).length) = Pn.fszs false (qOf xs) (qOf xs).length := (Pn.lay_eq (m := 0) hS hdone).symm
  have hby : ∀ P : List Int, ∀ (k : Nat) (x : Pn.Qt), (Pn.fszs false (qOf xs) (qOf xs).length)[k]? = some x → Pn.byq P [] k x = some (bAt (fun y : CK => Pn.bysP (Pn.partOf y.1.2)) xs k) ∧ ((bAt (fun y : CK => Pn.bysP (Pn.partOf y.1.2)) xs k).length : Int) = x.size := fun P k x hk => by
    obtain ⟨y, hy, e, es⟩ := hat k x hk
    obtain ⟨l', hl', hc⟩ := h y (List.mem_of_getElem? hy)
    have ht := htg k x hk
    obtain ⟨b1, b2, b3, b4, b5, b6⟩ := Pn.bysP_chk l' hl'
    rw [bAt_some hy]
    rw [es, e, hc, b1]
    have hlt : (l'.take (Pn.chk l').size).length = (Pn.chk l').size := by simp; omega
    by_cases hz : (Pn.partOf (Pn.chk l')).data = []
    · obtain ⟨c1, c2⟩ := b5 hz
      have es4 : x.size = 4 := by rw [es, e, hc]; simp [Pn.fsz, hz]
      refine ⟨?_, ?_⟩
      · unfold Pn.byq
        rw [e, hc, if_pos hz, es4, if_neg (by decide)]
        have hp : Pn.plcI P [] k (Pn.partOf (Pn.chk l')) = (Pn.partOf (Pn.chk l')).ins := by simp [Pn.plcI, b4]
        rw [hp, if_pos c1, ← b1]
        simp [Pn.bysP, hz]
      · rw [hlt, c2]; simp [Pn.fsz, hz]
    · refine ⟨?_, ?_⟩
      · unfold Pn.byq
        rw [e, hc, if_neg hz, ← b1]
        simp [Pn.bysP, hz]
      · rw [hlt, ← b6 hz]; simp [Pn.fsz, hz]
  unfold Pn.asmP
  rw [rdP_txt xs h]
  simp only [if_true]
  rw [hlay]
  have hT := fun P => byqs_take (hby P) xs.length (by rw [hL]; exact Nat.le_refl _)
  have hfr : (List.range xs.length).flatMap (bAt (fun y : CK => Pn.bysP (Pn.partOf y.1.2)) xs) = bs := by rw [flat_range xs (fun x => Pn.bysP (Pn.partOf x.1.2)), hb]
  have hlen' := hlen
  rw [hlen'] at hL hT hby
  rw [hlen', if_neg (by rw [(hT []).2, hfr]; omega)]
  unfold Pn.bysQ
  rw [hL, Pn.find_none _ _ (fun k hk => by
    obtain ⟨x, hx⟩ : ∃ x, (Pn.fszs false (qOf xs) xs.length)[k]? = some x := ⟨_, List.getElem?_eq_getElem (by omega)⟩
    simp only [Pn.badAt, hx, (hby _ k x hx).1]
    rfl)]
  simp only
  rw [(hT _).1, hfr]
/-- Lossless's plain side -/
theorem asm_dis (s : ByteArray) (hs : s.size ≤ 1024) (ht : (disL s).length ≤ 2000) : asmA ⟨(disL s).toArray⟩ false = (s.data.toList, 0, 0) := by
  have hsz : (⟨(disL s).toArray⟩ : ByteArray).size = (disL s).length := sz_mk _
  unfold asmA
  rw [if_neg (by omega)]
  have hCh : ChL (chkF s.size 0 s.data.toList) := chkF_mem _ _ _
  have hL : linesOf ⟨(disL s).toArray⟩ = txts (chkF s.size 0 s.data.toList) := by
    unfold linesOf
    rw [Lib.splitB_data]
    have hc : Lib.countB ⟨(disL s).toArray⟩ ⟨#[10]⟩ = Lib.count (disL s) [10] := by simp [Lib.countB]
    rw [hc]
    have e : disL s = ((chkF s.size 0 s.data.toList).map (fun x => Pn.shwC x.1.2)).flatMap (· ++ [10]) := by
      unfold disL disT
      rw [List.flatMap_map]
    show Lib.splitK [10] 0 _ (disL s) = _
    rw [e, Pn.split_text _ (fun T hT => by
      obtain ⟨x, hx, rfl⟩ := List.mem_map.1 hT
      obtain ⟨l', hl', hc⟩ := hCh x hx
      rw [hc]
      exact Pn.shwC_plain l')]
    rfl
  rw [hL]
  refine asm_txt _ hCh _ (chkF_bytes _ _ _ (by rw [size_list]; exact Nat.le_refl _)) (by rw [size_list]; exact hs)
end Go.Proofs.YtbmcofdodfcnnaaGreatDoor

/-
  pinionkeep.Lossless.
-/
namespace Go.Proofs.YtbmcofdodfcnnaaGreatDoor
open Go.RowKit
set_option maxRecDepth 20000 in
theorem passemble_any (s : ByteArray) (short : Bool) (w : World) (hE : Env w) :
    Calls Tryz.prog 21 #[.string s, .bool short] w fun e w' => e = .returned (.tuple #[.string ⟨(asmA s short).1.toArray⟩, .agg #[.int .i64 (asmA s short).2.1, .int .i64 (asmA s short).2.2]]) ∧ Below w.heap.size w w' := by
  have HF : Hid (CellsAt w.heap.size [.int .i64 0, .int .i64 0] (w.alloc (.cells #[.int .i64 0, .int .i64 0] 39))) := hid (CellsAt.new w [.int .i64 0, .int .i64 0] 39)
  have HB : Hid (Below w.heap.size w (w.alloc (.cells #[.int .i64 0, .int .i64 0] 39))) := hid ((Below.refl _ _).alloc (Nat.le_refl _) _)
  have H := hid (fun w' h => assemble_any s short w' h)
  have HE := hid (hE.below HB.out hE.1)
  generalize asmA s short = X at *
  obtain ⟨x1, x2, x3⟩ := X
  simp only at H
  clear hE
  go_enter Tryz.func21, Tryz.ntmps21
  go_wp2_with fail
  generalize w.alloc _ = W at *
  refine (H.out _ HE.out).mono ?_
  rintro e w1 ⟨rfl, hB1⟩
  have HF := hid (HF.out.next hB1)
  have HB := hid (HB.out.trans (hB1.mono HB.out.size))
  have q0 := HF.out.2.2 0 _ rfl
  have q1 := HF.out.2.2 1 _ rfl
  have qf := HF.out.2.1
  clear hB1
  go_wp2_with fail
  refine bodyPost_ret (v := .tuple #[.string ⟨x1.toArray⟩, .agg #[.int .i64 x2, .int .i64 x3]]) (by simp [results, Tryz.results21, go_sem, q0, q1]) rfl ⟨rfl, ?_⟩
  exact (HB.out.setCell (by simp) _).setCell (by simp) _
set_option maxRecDepth 20000 in
theorem pdisassemble_any (s : ByteArray) (w : World) (hE : Env w) :
    Calls Tryz.prog 20 #[.string s] w fun e w' => e = .returned (.tuple #[.string ⟨(disA s).1.toArray⟩, .int .i64 (disA s).2]) ∧ Below w.heap.size w w' := by
  have H := hid (disassemble_any s w hE)
  generalize disA s = X at *
  obtain ⟨x1, x2⟩ := X
  simp only at H
  clear hE
  go_enter Tryz.func20, Tryz.ntmps20
  go_wp2_with fail
  refine H.out.mono ?_
  rintro e w1 ⟨rfl, hB1⟩
  have HB := hid hB1
  clear hB1
  go_wp2_with fail
  go_ret2
  exact ⟨rfl, HB.out⟩
theorem ba_eta (s : ByteArray) : (⟨s.data.toList.toArray⟩ : ByteArray) = s := by cases s; simp
set_option maxRecDepth 20000 in
set_option maxHeartbeats 4000000 in
theorem lossless_is (s : ByteArray) (w : World) (hE : Env w) :
    Calls Tryz.prog 7 #[.string s] w fun e w' => e = .returned (.bool true) ∧ Below w.heap.size w w' := by
  have HE := hid hE
  have HD := hid (fun w' h => pdisassemble_any s w' h)
  clear hE
  by_cases h : 1024 < s.size
  · have e : disA s = ([], 8) := by unfold disA; rw [if_pos h]
    rw [e] at HD
    simp only at HD
    have hi : (1024 : Int) < s.size := by omega
    clear e
    go_enter Tryz.func7, Tryz.ntmps7
    go_wp2_with fail
    refine (awake_is _ HE.out).mono ?_
    rintro e w1 ⟨rfl, hB1⟩
    have HB1 := hid hB1
    clear hB1
    go_wp2_with fail
    refine (HD.out _ (HE.out.below HB1.out HE.out.1)).mono ?_
    rintro e w2 ⟨rfl, hB2⟩
    have HB2 := hid (HB1.out.trans (hB2.mono HB1.out.size))
    clear hB2
    go_wp2_with fail
    go_ret
    exact ⟨rfl, HB2.out⟩
  · have e : disA s = (disL s, 0) := by unfold disA; rw [if_neg h]
    rw [e] at HD
    simp only at HD
    by_cases ht : 2000 < (disL s).length
    · have hti : (2000 : Int) < ((disL s).length : Int) := by omega
      generalize disL s = T at *
      clear e
      go_enter Tryz.func7, Tryz.ntmps7
      go_wp2_with fail
      refine (awake_is _ HE.out).mono ?_
      rintro e w1 ⟨rfl, hB1⟩
      have HB1 := hid hB1
      clear hB1
      go_wp2_with fail
      refine (HD.out _ (HE.out.below HB1.out HE.out.1)).mono ?_
      rintro e w2 ⟨rfl, hB2⟩
      have HB2 := hid (HB1.out.trans (hB2.mono HB1.out.size))
      clear hB2
      go_wp2_with fail
      go_ret
      exact ⟨rfl, HB2.out⟩
    · have HA := hid (fun w' h => passemble_any ⟨(disL s).toArray⟩ false w' h)
      rw [asm_dis s (by omega) (by omega)] at HA
      simp only [ba_eta] at HA
      have hti : ¬ (2000 : Int) < ((disL s).length : Int) := by omega
      generalize disL s = T at *
      clear e
      go_enter Tryz.func7, Tryz.ntmps7
      go_wp2_with fail
      refine (awake_is _ HE.out).mono ?_
      rintro e w1 ⟨rfl, hB1⟩
      have HB1 := hid hB1
      clear hB1
      go_wp2_with fail
      refine (HD.out _ (HE.out.below HB1.out HE.out.1)).mono ?_
      rintro e w2 ⟨rfl, hB2⟩
      have HB2 := hid (HB1.out.trans (hB2.mono HB1.out.size))
      clear hB2
      go_wp2_with fail
      refine (HA.out _ (HE.out.below HB2.out HE.out.1)).mono ?_
      rintro e w3 ⟨rfl, hB3⟩
      have HB3 := hid (HB2.out.trans (hB3.mono HB2.out.size))
      clear hB3
      go_wp2_with fail
      have HF := hid (CellsAt.new w3 [.int .i64 0, .int .i64 0] 39)
      have HB4 : Hid (Below w.heap.size w (w3.alloc (.cells #[.int .i64 0, .int .i64 0] 39))) := hid (HB3.out.alloc HB3.out.size _)
      generalize w3.alloc _ = W4 at *
      refine (HD.out _ (HE.out.below HB4.out HE.out.1)).mono ?_
      rintro e w5 ⟨rfl, hB5⟩
      have HF5 := hid (HF.out.next hB5)
      have HB5 := hid (HB4.out.trans (hB5.mono HB4.out.size))
      have f0 := HF5.out.2.2 0 _ rfl
      have f1 := HF5.out.2.2 1 _ rfl
      clear hB5
      go_wp2_with fail
      go_ret
      exact ⟨rfl, HB5.out⟩
end Go.Proofs.YtbmcofdodfcnnaaGreatDoor
