import Derived.Test.YtbmcofdodfcnnaaGreatDoorGLA
import Derived.Test.YtbmcofdodfcnnaaGreatDoorGBG
import Derived.Test.YtbmcofdodfcnnaaGreatDoorGBC
import Derived.Lib.SplitLaws
import Derived.Test.YtbmcofdodfcnnaaGreatDoorGAW
import Derived.Test.YtbmcofdodfcnnaaGreatDoorVF
/-
  Plain: the text of bytes, and its lines read again.
-/
namespace Pn
open Go
/-- some bytes that belong together -/
structure Chk where
  size : Nat
  num : Int
  ins : Ins
def chk (l : List UInt8) : Chk :=
  if l.length < 2 then ⟨l.length, numN l, zIns⟩
  else if (expP (numN (l.take 2))).2 = 0 then ⟨2, numN (l.take 2), (expP (numN (l.take 2))).1⟩
  else if 4 ≤ l.length ∧ (dec (numN (l.take 4))).2 = 0 then ⟨4, numN (l.take 4), (dec (numN (l.take 4))).1⟩
  else ⟨2, numN (l.take 2), zIns⟩
def shwC (c : Chk) : List UInt8 :=
  if c.size = 4 then (shw c.ins).1
  else if (shortP c.ins).2 = 0 ∧ c.num = (shortP c.ins).1 then [99, 46] ++ (shw c.ins).1
  else if c.size = 2 then [46, 104, 97, 108, 102, 32] ++ Lib.itoa c.num
  else [46, 98, 121, 116, 101, 32] ++ Lib.itoa c.num
/-- what the line of a chunk puts into a program -/
def partOf (c : Chk) : Prt := if c.size = 4 then ⟨[], c.ins, []⟩ else ⟨bytN c.size c.num, zIns, []⟩
theorem no_cut {T : List UInt8} (h : ∀ c ∈ T, c ≠ 35) : (Lib.cut T [35]).1 = T := by unfold Lib.cut; rw [idx_none T 35 h]; rfl
theorem bytN_numN : ∀ l : List UInt8, bytN l.length (numN l) = l
  | [] => rfl
  | b :: r => by
    have hb : b.toNat < 256 := b.toNat_lt
    have e1 : (↑b.toNat + 256 * numN r) % 256 = (b.toNat : Int) := by omega
    have e2 : (↑b.toNat + 256 * numN r) / 256 = numN r := by omega
    simp only [List.length_cons, bytN, numN, e1, e2, bytN_numN r]
    congr 1
    simp
theorem names_other : ∀ k, k < 64 → Lib.hasPrefix (row k).name [99, 46] = false ∧ dsz (row k).name = 0 ∧ (row k).name ≠ [108, 105] ∧ nameB ([99, 46] ++ (row k).name) = true ∧ Lib.hasPrefix ([99, 46] ++ (row k).name) [99, 46] = true ∧ Lib.trimPrefix ([99, 46] ++ (row k).name) [99, 46] = (row k).name := by decide
theorem regL_head (n : Int) : ∃ r, regL n = 120 :: r := ⟨_, rfl⟩
theorem first_no_colon {kd : Nat} (h : kindsOk kd) (i : Ins) : ∀ q L, (shp kd).flatMap (pcOf i) = q :: L → q.2 ≠ [58] := by
  intro q L e
  obtain ⟨r1, h1⟩ := regL_head i.rd
  obtain ⟨r2, h2⟩ := regL_head i.rs1
  obtain ⟨r3, h3⟩ := regL_head i.rs2
  rcases h with rfl | rfl | rfl | rfl | rfl | rfl | rfl | rfl | rfl | rfl <;> simp [shp, pcOf, h1, h2, h3] at e <;> (obtain ⟨rfl, _⟩ := e; simp)
theorem cut_any (nm : List UInt8) (hnm : nameB nm = true) (k : Nat) (_hk : k < 64) (i : Ins) (H : Bnd i) (hko : kindsOk (row k).kind) :
    cutM (nm ++ behind (row k).kind (regL i.rd) (regL i.rs1) (regL i.rs2) (Lib.itoa i.imm)) 0 [] = some ((1, nm) :: (shp (row k).kind).flatMap (pcOf i)) := by
  have hadj : adjB (shp (row k).kind) = true := by rcases hko with h | h | h | h | h | h | h | h | h | h <;> rw [h] <;> decide
  rw [cut_name _ _ hnm, ← shp_behind hko i]
  split
  · rename_i h
    rw [h]
    simp [cutM, end1]
  · rw [cutM_next (goes_sign (.inr (.inr (.inr rfl)))) (end1 _) (k' := 0) (by decide), cut_run i H _ 0 [32] [] (shp_lett hko) hadj rfl (.inl (.inl rfl))]
    simp
theorem rlineP_one {p : Pc} {L : List Pc} (h : ∀ q M, L = q :: M → q.2 ≠ [58]) : rlineP (p :: L) = rstmt [] (p :: L) := by
  cases L with
  | nil => rfl
  | cons q M => simp only [rlineP]; rw [if_neg (h q M rfl)]
/-- the line of an instruction -/
theorem rline_ins {i : Ins} (h : right i = true) : rline (shw i).1 = ([], [⟨[], i, []⟩], 0) := by
  obtain ⟨k, hk, ho⟩ := right_op h
  obtain ⟨op, rd, rs1, rs2, imm⟩ := i
  simp only at ho
  subst ho
  rw [shw_yes h]
  have H := bnd_of hk h
  have hko := kinds_ok k hk
  have hp := plain_text k hk ⟨k + 1, rd, rs1, rs2, imm⟩ hko
  have hc := cut_text k hk ⟨k + 1, rd, rs1, rs2, imm⟩ H hko
  have hs := shape_back hk h
  have hq := first_no_colon hko ⟨k + 1, rd, rs1, rs2, imm⟩
  obtain ⟨n1, n2, n3, _⟩ := names_other k hk
  unfold showL rline
  simp only at hp hc ⊢
  rw [no_cut (fun c hc => (hp c hc).2), hc]
  simp only
  rw [rlineP_one hq]
  have hr : rinN ⟨(row k).name.toArray⟩ ((shp (row k).kind).flatMap (pcOf ⟨k + 1, rd, rs1, rs2, imm⟩)) = (⟨[], ⟨k + 1, rd, rs1, rs2, imm⟩, []⟩, 0) := by
    have hn : nmd ⟨(row k).name.toArray⟩ = some (⟨k + 1, 0, 0, 0, 0⟩, shp (row k).kind) := by unfold nmd; rw [name_find hk]
    unfold rinN
    rw [hn]
    simp only [hs, h, if_true]
  unfold rstmt rst
  simp only [n1, n2, hr]
  simp [n3]
/-- .. of its short form -/
theorem rline_short {i : Ins} {n : Int} (hs0 : shortP i = (n, 0)) (h : right i = true) : rline ([99, 46] ++ (shw i).1) = ([], [⟨bytN 2 n, zIns, []⟩], 0) := by
  obtain ⟨k, hk, ho⟩ := right_op h
  obtain ⟨op, rd, rs1, rs2, imm⟩ := i
  simp only at ho
  subst ho
  rw [shw_yes h]
  have H := bnd_of hk h
  have hko := kinds_ok k hk
  have hp := plain_text k hk ⟨k + 1, rd, rs1, rs2, imm⟩ hko
  obtain ⟨_, _, _, n4, n5, n6⟩ := names_other k hk
  have hc := cut_any ([99, 46] ++ (row k).name) n4 k hk ⟨k + 1, rd, rs1, rs2, imm⟩ H hko
  have hs := shape_back hk h
  have hq := first_no_colon hko ⟨k + 1, rd, rs1, rs2, imm⟩
  unfold showL rline
  simp only at hp hc ⊢
  rw [List.append_assoc] at hc
  rw [no_cut (fun c hc => by
    rcases List.mem_append.1 hc with h | h
    · have e : c = 99 ∨ c = 46 := by simpa using h
      rcases e with rfl | rfl <;> decide
    · exact (hp c h).2), hc]
  simp only
  rw [rlineP_one hq]
  have hr : pplain ⟨(row k).name.toArray⟩ ((shp (row k).kind).flatMap (pcOf ⟨k + 1, rd, rs1, rs2, imm⟩)) = (⟨k + 1, rd, rs1, rs2, imm⟩, 0) := by
    unfold pplain
    rw [name_find hk]
    simp only [hs, h, if_true]
  unfold rstmt rst
  simp only [n5, n6, if_true]
  unfold rshort
  rw [hr]
  simp [hs0]
theorem shw_len (i : Ins) : (shw i).1.length ≤ 2000 := by
  by_cases h : right i = true
  · obtain ⟨k, hk, ho⟩ := right_op h
    obtain ⟨op, rd, rs1, rs2, imm⟩ := i
    simp only at ho
    subst ho
    rw [shw_yes h]
    exact text_le k hk ⟨k + 1, rd, rs1, rs2, imm⟩ (bnd_of hk h) (kinds_ok k hk)
  · rw [shw_not (by simpa using h)]; simp
theorem itoa_no58 (n : Int) : Lib.itoa n ≠ [58] := by
  obtain ⟨c, r, e, h, _⟩ := itoa_cons n
  rw [e]
  intro e2
  injection e2 with e2 _
  subst e2
  revert h; decide
def dotB (l : List UInt8) : Bool := match l with
  | [] => false
  | c :: r => (beg c.toNat == some 1) && r.all fun x => goes 1 x.toNat
theorem cut_dot (nm l : List UInt8) (h : dotB nm = true) : cutM (nm ++ l) 0 [] = cutM l 1 nm := by
  cases nm with
  | nil => cases h
  | cons c r =>
    simp only [dotB, Bool.and_eq_true, List.all_eq_true, beq_iff_eq] at h
    rw [cut_tok (k := 0) (ps := []) (goes_03 (.inl rfl) _) rfl h.1 h.2]
    simp
/-- .. of data -/
theorem rline_data {nm : List UInt8} {size : Nat} {n : Int} (hn : dotB nm = true) (hc : Lib.hasPrefix nm [99, 46] = false) (hd : dsz nm = size) (hs : size = 1 ∨ size = 2) (hp : ∀ c ∈ nm, c ≠ 35) (h0 : 0 ≤ n) (h1 : n < 2 ^ (8 * size)) :
    rline (nm ++ 32 :: Lib.itoa n) = ([], [⟨bytN size n, zIns, []⟩], 0) := by
  have hb : n < 65536 := by rcases hs with rfl | rfl <;> simp at h1 <;> omega
  have hcut : cutM (nm ++ 32 :: Lib.itoa n) 0 [] = some [(1, nm), (2, Lib.itoa n)] := by
    have := cut_num (n := n) (l := []) (t := [32]) (k := 0) (ps := []) (.inl rfl) rfl
    rw [List.append_nil] at this
    rw [cut_dot _ _ hn, cutM_next (goes_sign (.inr (.inr (.inr rfl)))) (end1 _) (k' := 0) (by decide), this]
    simp [cutM, endP, endOk, isInt_itoa n (by omega) (by omega)]
  unfold rline
  rw [no_cut (fun c hc => by
    rcases List.mem_append.1 hc with h | h
    · exact hp c h
    · rcases List.mem_cons.1 h with rfl | h
      · decide
      · exact (plain_itoa n c h).2), hcut]
  simp only [rlineP]
  rw [if_neg (itoa_no58 n)]
  unfold rstmt rst
  have hd0 : dsz nm ≠ 0 := by rw [hd]; omega
  have hdn : (dsz nm).toNat = size := by rw [hd]; simp
  simp only [hc, hdn]
  have hcd : ¬ ((false : Bool) = true) := by simp
  simp only [if_neg hcd, if_pos hd0]
  unfold rdata
  have hps : pshape [105] [(2, Lib.itoa n)] zIns [] = some (⟨0, 0, 0, 0, n⟩, []) := by
    simp [pshape, pstep, pnum_itoa (n := n) (by omega) (by omega), zIns]
  rw [hps]
  simp only
  have hn2 : ¬ (n < 0 ∨ 2 ^ (8 * size) ≤ n) := by omega
  simp only [if_neg hn2, if_true]
theorem rline_nil : rline [] = ([], [], 0) := rfl
/-- a chunk's line, read again, is its bytes -/
theorem chk_line (l : List UInt8) (hl : l ≠ []) : rline (shwC (chk l)) = ([], [partOf (chk l)], 0) := by
  have hpos : 0 < l.length := List.length_pos_iff.2 hl
  unfold chk
  split
  · rename_i h
    have h1 : l.length = 1 := by omega
    have hb := numN_bd l
    rw [h1] at hb
    have hz : (shortP zIns).2 ≠ 0 := by decide +kernel
    simp only [shwC, partOf, h1]
    rw [if_neg (by omega), if_neg (fun h => hz h.1), if_neg (by omega), if_neg (by omega)]
    exact rline_data (nm := [46, 98, 121, 116, 101]) (size := 1) (by decide) (by decide) (by decide) (.inl rfl) (by decide) hb.1 hb.2
  · rename_i h
    have ht : (l.take 2).length = 2 := by simp; omega
    have hb := numN_bd (l.take 2)
    rw [ht] at hb
    split
    · rename_i he
      generalize hX : expP (numN (l.take 2)) = X at *
      obtain ⟨y, e0⟩ := X
      simp only at he
      subst he
      obtain ⟨v, hv⟩ := short_exp hX
      have hr : right y = true := by
        apply Classical.byContradiction; intro hn
        unfold shortP at hv
        rw [if_neg hn] at hv
        cases hv
      simp only [shwC, partOf, hv]
      have h24 : ¬ (2 = 4) := by omega
      simp only [if_neg h24, true_and]
      by_cases hq : numN (l.take 2) = v
      · rw [if_pos hq, rline_short hv hr, hq]
      · rw [if_neg hq]
        simp only [if_true]
        exact rline_data (nm := [46, 104, 97, 108, 102]) (size := 2) (by decide) (by decide) (by decide) (.inr rfl) (by decide) hb.1 hb.2
    · split
      · rename_i hd
        generalize hX : dec (numN (l.take 4)) = X at *
        obtain ⟨y, e0⟩ := X
        have e0 := hd.2
        simp only at e0
        subst e0
        have he := enc_dec hX
        have hr : right y = true := by
          apply Classical.byContradiction; intro hn
          rw [enc_not (by simpa using hn)] at he
          simp at he
        simp only [shwC, partOf, if_true]
        exact rline_ins hr
      · have hz : (shortP zIns).2 ≠ 0 := by decide +kernel
        simp only [shwC, partOf]
        rw [if_neg (by omega), if_neg (fun h => hz h.1), if_pos trivial, if_neg (by omega)]
        exact rline_data (nm := [46, 104, 97, 108, 102]) (size := 2) (by decide) (by decide) (by decide) (.inr rfl) (by decide) hb.1 hb.2
/-- the bytes of a part -/
def bysP (p : Prt) : List UInt8 := if p.data = [] then bytN 4 (enc p.ins).1 else p.data
theorem bysP_chk (l : List UInt8) (hl : l ≠ []) : bysP (partOf (chk l)) = l.take (chk l).size ∧ 1 ≤ (chk l).size ∧ (chk l).size ≤ l.length ∧ (partOf (chk l)).tg = [] ∧ ((partOf (chk l)).data = [] → (enc (partOf (chk l)).ins).2 = 0 ∧ (chk l).size = 4) ∧ ((partOf (chk l)).data ≠ [] → (partOf (chk l)).data.length = (chk l).size) := by
  have hpos : 0 < l.length := List.length_pos_iff.2 hl
  have hne : ∀ n x, 1 ≤ n → bytN n x ≠ [] := fun n x h e => by have := bytN_len n x; rw [e] at this; simp at this; omega
  unfold chk
  split
  · rename_i h
    have h1 : l.length = 1 := by omega
    have e : bytN 1 (numN l) = l := by have := bytN_numN l; rwa [h1] at this
    have hn := hne 1 (numN l) (by omega)
    have h14 : ¬ (1 = 4) := by omega
    simp only [partOf, h1, bysP, if_neg h14, if_neg hn]
    refine ⟨by rw [e, List.take_of_length_le (by omega)], by omega, by omega, trivial, fun h => absurd h hn, fun _ => bytN_len _ _⟩
  · rename_i h
    have ht : (l.take 2).length = 2 := by simp; omega
    have e : bytN 2 (numN (l.take 2)) = l.take 2 := by have := bytN_numN (l.take 2); rwa [ht] at this
    have hn := hne 2 (numN (l.take 2)) (by omega)
    split
    · have h24 : ¬ (2 = 4) := by omega
      simp only [partOf, bysP, if_neg h24, if_neg hn]
      exact ⟨e, by omega, by omega, trivial, fun h => absurd h hn, fun _ => bytN_len _ _⟩
    · split
      · rename_i hd
        generalize hX : dec (numN (l.take 4)) = X at *
        obtain ⟨y, e0⟩ := X
        have e0 := hd.2
        simp only at e0
        subst e0
        have he := enc_dec hX
        have ht : (l.take 4).length = 4 := by simp; omega
        have e : bytN 4 (numN (l.take 4)) = l.take 4 := by have := bytN_numN (l.take 4); rwa [ht] at this
        simp only [partOf, if_true, bysP, he]
        exact ⟨e, by omega, hd.1, trivial, fun _ => ⟨trivial, trivial⟩, fun h => absurd rfl h⟩
      · have h24 : ¬ (2 = 4) := by omega
        simp only [partOf, bysP, if_neg h24, if_neg hn]
        exact ⟨e, by omega, by omega, trivial, fun h => absurd h hn, fun _ => bytN_len _ _⟩
end Pn

/-
  asm: a chunk of some bytes, and its text.
-/
namespace Go.Proofs.YtbmcofdodfcnnaaGreatDoor
open Go.RowKit
def chkC (c : Pn.Chk) : List Value := [.int .i64 c.size, .int .i64 c.num, .int .i64 c.ins.op, .int .i64 c.ins.rd, .int .i64 c.ins.rs1, .int .i64 c.ins.rs2, .int .i64 c.ins.imm]
theorem wrap_num {l : List UInt8} (h : l.length ≤ 4) : IntKind.i64.wrap (Pn.numN l) = Pn.numN l := by
  have hb := Pn.numN_bd l
  have h2 : (2:Int) ^ (8 * l.length) ≤ 2 ^ 32 := Pn.pow_mono (by omega)
  have e : (2:Int) ^ 32 = 4294967296 := by decide
  exact IntWalk.i64_in _ (by omega)
theorem number_sm (s : ByteArray) (w : World) (hs : s.size ≤ 4) : Calls Tryz.prog 148 #[.string s] w fun e w' => e = .returned (.int .i64 (Pn.numN s.data.toList)) ∧ w' = w := by
  have := number_is s w (by omega)
  rwa [wrap_num (by rw [← Lib.size_eq]; exact hs)] at this
def z7 : List Value := [.int .i64 0, .int .i64 0, .int .i64 0, .int .i64 0, .int .i64 0, .int .i64 0, .int .i64 0]
theorem ext_take (s : ByteArray) (n : Nat) : (s.extract 0 n).data.toList = s.data.toList.take n := Lib.extract_from_zero s n
theorem size_list (s : ByteArray) : s.data.toList.length = s.size := (Lib.size_eq s).symm
theorem chk_1 {s : ByteArray} (h : s.size < 2) : Pn.chk s.data.toList = ⟨s.size, Pn.numN s.data.toList, Pn.zIns⟩ := by
  have hsz := size_list s
  unfold Pn.chk; rw [if_pos (by omega), hsz]
theorem chk_2 {s : ByteArray} {i : Pn.Ins} (h : ¬ s.size < 2) (he : Pn.expP (Pn.numN (s.extract 0 2).data.toList) = (i, 0)) : Pn.chk s.data.toList = ⟨2, Pn.numN (s.extract 0 2).data.toList, i⟩ := by
  have hsz := size_list s
  unfold Pn.chk; rw [← ext_take, if_neg (by omega), he]; simp
theorem chk_4 {s : ByteArray} {i : Pn.Ins} (h : ¬ s.size < 4) (he : (Pn.expP (Pn.numN (s.extract 0 2).data.toList)).2 ≠ 0) (hd : Pn.dec (Pn.numN (s.extract 0 4).data.toList) = (i, 0)) : Pn.chk s.data.toList = ⟨4, Pn.numN (s.extract 0 4).data.toList, i⟩ := by
  have hsz := size_list s
  unfold Pn.chk; rw [← ext_take, ← ext_take, if_neg (by omega), if_neg he, hd, if_pos ⟨by omega, rfl⟩]
theorem chk_n {s : ByteArray} (h : ¬ s.size < 2) (he : (Pn.expP (Pn.numN (s.extract 0 2).data.toList)).2 ≠ 0) (hd : s.size < 4 ∨ (Pn.dec (Pn.numN (s.extract 0 4).data.toList)).2 ≠ 0) : Pn.chk s.data.toList = ⟨2, Pn.numN (s.extract 0 2).data.toList, Pn.zIns⟩ := by
  have hsz := size_list s
  unfold Pn.chk; rw [← ext_take, ← ext_take, if_neg (by omega), if_neg he, if_neg (fun h2 => by
    rcases hd with hd | hd
    · omega
    · exact hd h2.2)]
set_option maxRecDepth 100000 in
set_option maxHeartbeats 4000000 in
theorem firstChunk_is (s : ByteArray) (w : World) :
    Calls Tryz.prog 138 #[.string s] w fun e w' => e = .returned (.agg (chkC (Pn.chk s.data.toList)).toArray) ∧ Below w.heap.size w w' := by
  have HZ : Hid (CellsAt w.heap.size z7 (w.alloc (.cells z7.toArray 139))) := hid (CellsAt.new w z7 139)
  have HB0 : Hid (Below w.heap.size w (w.alloc (.cells z7.toArray 139))) := hid ((Below.refl _ _).alloc (Nat.le_refl _) _)
  unfold z7 at HZ HB0
  by_cases h2 : s.size < 2
  · have HV := hid (chk_1 h2)
    have h2' : (s.size : Int) < 2 := by omega
    have HN := hid (fun w' => number_sm s w' (by omega))
    generalize Pn.numN s.data.toList = N at *
    go_enter Tryz.func138, Tryz.ntmps138
    go_wp2_with fail
    generalize w.alloc _ = W at *
    refine (HN.out _).mono ?_
    rintro e w1 ⟨rfl, rfl⟩
    have y0 := HZ.out.2.2 0 _ rfl
    have y1 := HZ.out.2.2 1 _ rfl
    have y2 := HZ.out.2.2 2 _ rfl
    have y3 := HZ.out.2.2 3 _ rfl
    have y4 := HZ.out.2.2 4 _ rfl
    have y5 := HZ.out.2.2 5 _ rfl
    have y6 := HZ.out.2.2 6 _ rfl
    have yf := HZ.out.2.1
    go_wp2_with fail
    refine bodyPost_ret (v := .agg (chkC ⟨s.size, N, Pn.zIns⟩).toArray) (by simp [results, Tryz.results138, go_sem, y0, y1, y2, y3, y4, y5, y6, chkC, Pn.zIns]) rfl ⟨by rw [HV.out], ?_⟩
    exact below7 HB0.out _ _ _ _ _ _ _
  · have h2' : (2 : Int) ≤ s.size := by omega
    have h2n : ¬ (s.size : Int) < 2 := by omega
    have HN := hid (fun w' => number_sm (s.extract 0 2) w' (by simp; omega))
    have HX := hid (fun w' => iexpand_any (Pn.numN (s.extract 0 2).data.toList) w')
    have HV2 := hid (fun i he => chk_2 (s := s) (i := i) h2 he)
    have HVn := hid (fun he hd => chk_n (s := s) h2 he hd)
    have HV4 := hid (fun (h4 : ¬ s.size < 4) i he hd => chk_4 (s := s) (i := i) h4 he hd)
    generalize Pn.numN (s.extract 0 2).data.toList = N at *
    generalize Pn.expP N = X at *
    obtain ⟨⟨xop, xrd, xrs1, xrs2, ximm⟩, ex⟩ := X
    unfold Pn.Ins.val at HX
    simp only at HX
    by_cases hex : ex = 0
    · subst hex
      have HV := hid (HV2.out _ rfl)
      go_enter Tryz.func138, Tryz.ntmps138
      go_wp2_with fail
      generalize w.alloc _ = W at *
      refine (HN.out _).mono ?_
      rintro e w1 ⟨rfl, rfl⟩
      go_wp2_with fail
      refine (HX.out _).mono ?_
      rintro e w2 ⟨rfl, hB2⟩
      have HZ := hid (HZ.out.next hB2)
      have HB0 := hid (HB0.out.trans (hB2.mono HB0.out.size))
      clear hB2
      have HZ := hid (HZ.out.alloc (.cells #[.int .i64 xop, .int .i64 xrd, .int .i64 xrs1, .int .i64 xrs2, .int .i64 ximm] 26))
      have HB0 := hid (HB0.out.alloc HB0.out.size (.cells #[.int .i64 xop, .int .i64 xrd, .int .i64 xrs1, .int .i64 xrs2, .int .i64 ximm] 26))
      have y0 := HZ.out.2.2 0 _ rfl
      have y1 := HZ.out.2.2 1 _ rfl
      have y2 := HZ.out.2.2 2 _ rfl
      have y3 := HZ.out.2.2 3 _ rfl
      have y4 := HZ.out.2.2 4 _ rfl
      have y5 := HZ.out.2.2 5 _ rfl
      have y6 := HZ.out.2.2 6 _ rfl
      have yf := HZ.out.2.1
      go_wp2_with fail
      refine bodyPost_ret (v := .agg (chkC ⟨2, N, ⟨xop, xrd, xrs1, xrs2, ximm⟩⟩).toArray) (by simp [results, Tryz.results138, go_sem, y0, y1, y2, y3, y4, y5, y6, chkC]) rfl ⟨by rw [HV.out], ?_⟩
      exact below7 HB0.out _ _ _ _ _ _ _
    · by_cases h4 : s.size < 4
      · have h4' : (s.size : Int) < 4 := by omega
        have HV := hid (HVn.out hex (.inl h4))
        go_enter Tryz.func138, Tryz.ntmps138
        go_wp2_with fail
        generalize w.alloc _ = W at *
        refine (HN.out _).mono ?_
        rintro e w1 ⟨rfl, rfl⟩
        go_wp2_with fail
        refine (HX.out _).mono ?_
        rintro e w2 ⟨rfl, hB2⟩
        have HZ := hid (HZ.out.next hB2)
        have HB0 := hid (HB0.out.trans (hB2.mono HB0.out.size))
        clear hB2
        have HZ := hid (HZ.out.alloc (.cells #[.int .i64 xop, .int .i64 xrd, .int .i64 xrs1, .int .i64 xrs2, .int .i64 ximm] 26))
        have HB0 := hid (HB0.out.alloc HB0.out.size (.cells #[.int .i64 xop, .int .i64 xrd, .int .i64 xrs1, .int .i64 xrs2, .int .i64 ximm] 26))
        have y0 := HZ.out.2.2 0 _ rfl
        have y1 := HZ.out.2.2 1 _ rfl
        have y2 := HZ.out.2.2 2 _ rfl
        have y3 := HZ.out.2.2 3 _ rfl
        have y4 := HZ.out.2.2 4 _ rfl
        have y5 := HZ.out.2.2 5 _ rfl
        have y6 := HZ.out.2.2 6 _ rfl
        have yf := HZ.out.2.1
        go_wp2_with fail
        refine bodyPost_ret (v := .agg (chkC ⟨2, N, Pn.zIns⟩).toArray) (by simp [results, Tryz.results138, go_sem, y0, y1, y2, y3, y4, y5, y6, chkC, Pn.zIns]) rfl ⟨by rw [HV.out], ?_⟩
        exact below7 HB0.out _ _ _ _ _ _ _
      · have h4' : (4 : Int) ≤ s.size := by omega
        have h4n : ¬ (s.size : Int) < 4 := by omega
        have HM := hid (fun w' => number_sm (s.extract 0 4) w' (by simp; omega))
        have HD := hid (fun w' => idecode_any (Pn.numN (s.extract 0 4).data.toList) w')
        have HV4 := hid (HV4.out h4)
        have HVn := hid (fun hd => HVn.out hex (.inr hd))
        generalize Pn.numN (s.extract 0 4).data.toList = M at *
        generalize Pn.dec M = X at *
        obtain ⟨⟨dop, drd, drs1, drs2, dimm⟩, dx⟩ := X
        unfold Pn.Ins.val at HD
        simp only at HD HVn HV4
        by_cases hdx : dx = 0
        · subst hdx
          have HV := hid (HV4.out _ hex rfl)
          go_enter Tryz.func138, Tryz.ntmps138
          go_wp2_with fail
          generalize w.alloc _ = W at *
          refine (HN.out _).mono ?_
          rintro e w1 ⟨rfl, rfl⟩
          go_wp2_with fail
          refine (HX.out _).mono ?_
          rintro e w2 ⟨rfl, hB2⟩
          have HZ := hid (HZ.out.next hB2)
          have HB0 := hid (HB0.out.trans (hB2.mono HB0.out.size))
          clear hB2
          have HZ := hid (HZ.out.alloc (.cells #[.int .i64 xop, .int .i64 xrd, .int .i64 xrs1, .int .i64 xrs2, .int .i64 ximm] 26))
          have HB0 := hid (HB0.out.alloc HB0.out.size (.cells #[.int .i64 xop, .int .i64 xrd, .int .i64 xrs1, .int .i64 xrs2, .int .i64 ximm] 26))
          go_wp2_with fail
          generalize w2.alloc _ = W2 at *
          refine (HM.out _).mono ?_
          rintro e w3 ⟨rfl, rfl⟩
          go_wp2_with fail
          refine (HD.out _).mono ?_
          rintro e w4 ⟨rfl, hB4⟩
          have HZ := hid (HZ.out.next hB4)
          have HB0 := hid (HB0.out.trans (hB4.mono HB0.out.size))
          clear hB4
          have HZ := hid (HZ.out.alloc (.cells #[.int .i64 dop, .int .i64 drd, .int .i64 drs1, .int .i64 drs2, .int .i64 dimm] 26))
          have HB0 := hid (HB0.out.alloc HB0.out.size (.cells #[.int .i64 dop, .int .i64 drd, .int .i64 drs1, .int .i64 drs2, .int .i64 dimm] 26))
          have y0 := HZ.out.2.2 0 _ rfl
          have y1 := HZ.out.2.2 1 _ rfl
          have y2 := HZ.out.2.2 2 _ rfl
          have y3 := HZ.out.2.2 3 _ rfl
          have y4 := HZ.out.2.2 4 _ rfl
          have y5 := HZ.out.2.2 5 _ rfl
          have y6 := HZ.out.2.2 6 _ rfl
          have yf := HZ.out.2.1
          go_wp2_with fail
          refine bodyPost_ret (v := .agg (chkC ⟨4, M, ⟨dop, drd, drs1, drs2, dimm⟩⟩).toArray) (by simp [results, Tryz.results138, go_sem, y0, y1, y2, y3, y4, y5, y6, chkC]) rfl ⟨by rw [HV.out], ?_⟩
          exact below7 HB0.out _ _ _ _ _ _ _
        · have HV := hid (HVn.out hdx)
          go_enter Tryz.func138, Tryz.ntmps138
          go_wp2_with fail
          generalize w.alloc _ = W at *
          refine (HN.out _).mono ?_
          rintro e w1 ⟨rfl, rfl⟩
          go_wp2_with fail
          refine (HX.out _).mono ?_
          rintro e w2 ⟨rfl, hB2⟩
          have HZ := hid (HZ.out.next hB2)
          have HB0 := hid (HB0.out.trans (hB2.mono HB0.out.size))
          clear hB2
          have HZ := hid (HZ.out.alloc (.cells #[.int .i64 xop, .int .i64 xrd, .int .i64 xrs1, .int .i64 xrs2, .int .i64 ximm] 26))
          have HB0 := hid (HB0.out.alloc HB0.out.size (.cells #[.int .i64 xop, .int .i64 xrd, .int .i64 xrs1, .int .i64 xrs2, .int .i64 ximm] 26))
          go_wp2_with fail
          generalize w2.alloc _ = W2 at *
          refine (HM.out _).mono ?_
          rintro e w3 ⟨rfl, rfl⟩
          go_wp2_with fail
          refine (HD.out _).mono ?_
          rintro e w4 ⟨rfl, hB4⟩
          have HZ := hid (HZ.out.next hB4)
          have HB0 := hid (HB0.out.trans (hB4.mono HB0.out.size))
          clear hB4
          have HZ := hid (HZ.out.alloc (.cells #[.int .i64 dop, .int .i64 drd, .int .i64 drs1, .int .i64 drs2, .int .i64 dimm] 26))
          have HB0 := hid (HB0.out.alloc HB0.out.size (.cells #[.int .i64 dop, .int .i64 drd, .int .i64 drs1, .int .i64 drs2, .int .i64 dimm] 26))
          have y0 := HZ.out.2.2 0 _ rfl
          have y1 := HZ.out.2.2 1 _ rfl
          have y2 := HZ.out.2.2 2 _ rfl
          have y3 := HZ.out.2.2 3 _ rfl
          have y4 := HZ.out.2.2 4 _ rfl
          have y5 := HZ.out.2.2 5 _ rfl
          have y6 := HZ.out.2.2 6 _ rfl
          have yf := HZ.out.2.1
          go_wp2_with fail
          refine bodyPost_ret (v := .agg (chkC ⟨2, N, Pn.zIns⟩).toArray) (by simp [results, Tryz.results138, go_sem, y0, y1, y2, y3, y4, y5, y6, chkC, Pn.zIns]) rfl ⟨by rw [HV.out], ?_⟩
          exact below7 HB0.out _ _ _ _ _ _ _
end Go.Proofs.YtbmcofdodfcnnaaGreatDoor

/-
  asm: a chunk's text.
-/
namespace Go.Proofs.YtbmcofdodfcnnaaGreatDoor
open Go.RowKit
theorem sz_mk (t : List UInt8) : (ByteArray.mk t.toArray).size = t.length := by simp [ByteArray.size]
set_option maxRecDepth 100000 in
set_option maxHeartbeats 4000000 in
theorem cshow_is (c : Pn.Chk) (w : World) (hE : Env w) (h0 : 0 ≤ c.num) (h1 : c.num < 4294967296) (hs : c.size = 1 ∨ c.size = 2 ∨ c.size = 4) :
    Calls Tryz.prog 77 #[.agg (chkC c).toArray] w fun e w' => ∃ s : ByteArray, e = .returned (.string s) ∧ s.size ≤ 2100 ∧ Hid (s.data.toList = Pn.shwC c) ∧ Below w.heap.size w w' := by
  obtain ⟨size, num, ⟨op, rd, rs1, rs2, imm⟩⟩ := c
  simp only at h0 h1 hs
  have HC : Hid (CellsAt w.heap.size (chkC ⟨size, num, ⟨op, rd, rs1, rs2, imm⟩⟩) (w.alloc (.cells (chkC ⟨size, num, ⟨op, rd, rs1, rs2, imm⟩⟩).toArray 139))) := hid (CellsAt.new w _ 139)
  have HB0 : Hid (Below w.heap.size w (w.alloc (.cells (chkC ⟨size, num, ⟨op, rd, rs1, rs2, imm⟩⟩).toArray 139))) := hid ((Below.refl _ _).alloc (Nat.le_refl _) _)
  have HE := hid hE
  have HSW := hid (fun w' (h : Env w') => lshow_any ⟨op, rd, rs1, rs2, imm⟩ w' h)
  have HST := hid (fun w' => short_is ⟨op, rd, rs1, rs2, imm⟩ w' reads_all)
  have HV : Hid (Pn.shwC ⟨size, num, ⟨op, rd, rs1, rs2, imm⟩⟩ = if size = 4 then (Pn.shw ⟨op, rd, rs1, rs2, imm⟩).1 else if (Pn.shortP ⟨op, rd, rs1, rs2, imm⟩).2 = 0 ∧ num = (Pn.shortP ⟨op, rd, rs1, rs2, imm⟩).1 then [99, 46] ++ (Pn.shw ⟨op, rd, rs1, rs2, imm⟩).1 else if size = 2 then [46, 104, 97, 108, 102, 32] ++ Lib.itoa num else [46, 98, 121, 116, 101, 32] ++ Lib.itoa num) := hid rfl
  have HL := hid (Pn.shw_len ⟨op, rd, rs1, rs2, imm⟩)
  clear hE
  unfold chkC at *
  simp only at *
  generalize Pn.shw ⟨op, rd, rs1, rs2, imm⟩ = T at *
  generalize Pn.shortP ⟨op, rd, rs1, rs2, imm⟩ = S at *
  obtain ⟨t, te⟩ := T
  obtain ⟨n, se⟩ := S
  unfold Pn.Ins.val at HSW HST
  simp only at *
  go_enter Tryz.func77, Tryz.ntmps77
  go_wp2_with fail
  generalize w.alloc _ = W at *
  refine (HSW.out _ (HE.out.below HB0.out HE.out.1)).mono ?_
  rintro e w1 ⟨rfl, hB1⟩
  have HC := hid (HC.out.next hB1)
  have HB0 := hid (HB0.out.trans (hB1.mono HB0.out.size))
  clear hB1
  have y2 := HC.out.2.2 2 _ rfl
  have y3 := HC.out.2.2 3 _ rfl
  have y4 := HC.out.2.2 4 _ rfl
  have y5 := HC.out.2.2 5 _ rfl
  have y6 := HC.out.2.2 6 _ rfl
  go_wp2_with fail
  refine (HST.out _).mono ?_
  rintro e w2 ⟨rfl, hB2⟩
  have HC := hid (HC.out.next hB2)
  have HB0 := hid (HB0.out.trans (hB2.mono HB0.out.size))
  clear hB2 y2 y3 y4 y5 y6
  have y0 := HC.out.2.2 0 _ rfl
  have y1 := HC.out.2.2 1 _ rfl
  rcases hs with rfl | rfl | rfl
  · by_cases hse : se = 0
    · subst hse
      by_cases hnn : num = n
      · subst hnn
        have HW : Hid (Pn.shwC ⟨1, num, ⟨op, rd, rs1, rs2, imm⟩⟩ = [99, 46] ++ t) := hid (by rw [HV.out]; simp)
        clear HSW HST HV
        have htl := HL.out
        have hti : ¬ (9223372036854775807 : Int) < 2 + t.length := by omega
        have htn : ¬ 9223372036854775807 < 2 + t.length := by omega
        go_wp2_with fail
        go_ret
        exact ⟨_, rfl, by rw [ByteArray.size_append]; exact Nat.le_trans (Nat.add_le_add (Nat.le_of_eq rfl : _ ≤ 2) (Nat.le_of_eq (sz_mk t))) (by omega), hid (by rw [HW.out]; simp), HB0.out⟩
      · have hnb : (num == n) = false := by simpa using hnn
        have HW : Hid (Pn.shwC ⟨1, num, ⟨op, rd, rs1, rs2, imm⟩⟩ = [46, 98, 121, 116, 101, 32] ++ Lib.itoa num) := hid (by rw [HV.out]; simp [hnn])
        clear HSW HST HV
        go_wp2_with fail
        refine (itoa_is num _ (by omega) (by omega) (HE.out.below HB0.out HE.out.1)).mono ?_
        rintro e w3 ⟨q, rfl, hq, HQ, hB3⟩
        have HB0 := hid (HB0.out.trans (hB3.mono HB0.out.size))
        clear hB3
        have hqi : ¬ (9223372036854775807 : Int) < 6 + q.size := by omega
        have hqn : ¬ 9223372036854775807 < 6 + q.size := by omega
        go_wp2_with fail
        go_ret
        exact ⟨_, rfl, by rw [ByteArray.size_append]; exact Nat.le_trans (Nat.add_le_add (Nat.le_of_eq rfl : _ ≤ 6) hq) (by omega), hid (by rw [HW.out, ← HQ.out]; simp), HB0.out⟩
    · have HW : Hid (Pn.shwC ⟨1, num, ⟨op, rd, rs1, rs2, imm⟩⟩ = [46, 98, 121, 116, 101, 32] ++ Lib.itoa num) := hid (by rw [HV.out]; simp [hse])
      clear HSW HST HV
      go_wp2_with fail
      refine (itoa_is num _ (by omega) (by omega) (HE.out.below HB0.out HE.out.1)).mono ?_
      rintro e w3 ⟨q, rfl, hq, HQ, hB3⟩
      have HB0 := hid (HB0.out.trans (hB3.mono HB0.out.size))
      clear hB3
      have hqi : ¬ (9223372036854775807 : Int) < 6 + q.size := by omega
      have hqn : ¬ 9223372036854775807 < 6 + q.size := by omega
      go_wp2_with fail
      go_ret
      exact ⟨_, rfl, by rw [ByteArray.size_append]; exact Nat.le_trans (Nat.add_le_add (Nat.le_of_eq rfl : _ ≤ 6) hq) (by omega), hid (by rw [HW.out, ← HQ.out]; simp), HB0.out⟩
  · by_cases hse : se = 0
    · subst hse
      by_cases hnn : num = n
      · subst hnn
        have HW : Hid (Pn.shwC ⟨2, num, ⟨op, rd, rs1, rs2, imm⟩⟩ = [99, 46] ++ t) := hid (by rw [HV.out]; simp)
        clear HSW HST HV
        have htl := HL.out
        have hti : ¬ (9223372036854775807 : Int) < 2 + t.length := by omega
        have htn : ¬ 9223372036854775807 < 2 + t.length := by omega
        go_wp2_with fail
        go_ret
        exact ⟨_, rfl, by rw [ByteArray.size_append]; exact Nat.le_trans (Nat.add_le_add (Nat.le_of_eq rfl : _ ≤ 2) (Nat.le_of_eq (sz_mk t))) (by omega), hid (by rw [HW.out]; simp), HB0.out⟩
      · have hnb : (num == n) = false := by simpa using hnn
        have HW : Hid (Pn.shwC ⟨2, num, ⟨op, rd, rs1, rs2, imm⟩⟩ = [46, 104, 97, 108, 102, 32] ++ Lib.itoa num) := hid (by rw [HV.out]; simp [hnn])
        clear HSW HST HV
        go_wp2_with fail
        refine (itoa_is num _ (by omega) (by omega) (HE.out.below HB0.out HE.out.1)).mono ?_
        rintro e w3 ⟨q, rfl, hq, HQ, hB3⟩
        have HB0 := hid (HB0.out.trans (hB3.mono HB0.out.size))
        clear hB3
        have hqi : ¬ (9223372036854775807 : Int) < 6 + q.size := by omega
        have hqn : ¬ 9223372036854775807 < 6 + q.size := by omega
        go_wp2_with fail
        go_ret
        exact ⟨_, rfl, by rw [ByteArray.size_append]; exact Nat.le_trans (Nat.add_le_add (Nat.le_of_eq rfl : _ ≤ 6) hq) (by omega), hid (by rw [HW.out, ← HQ.out]; simp), HB0.out⟩
    · have HW : Hid (Pn.shwC ⟨2, num, ⟨op, rd, rs1, rs2, imm⟩⟩ = [46, 104, 97, 108, 102, 32] ++ Lib.itoa num) := hid (by rw [HV.out]; simp [hse])
      clear HSW HST HV
      go_wp2_with fail
      refine (itoa_is num _ (by omega) (by omega) (HE.out.below HB0.out HE.out.1)).mono ?_
      rintro e w3 ⟨q, rfl, hq, HQ, hB3⟩
      have HB0 := hid (HB0.out.trans (hB3.mono HB0.out.size))
      clear hB3
      have hqi : ¬ (9223372036854775807 : Int) < 6 + q.size := by omega
      have hqn : ¬ 9223372036854775807 < 6 + q.size := by omega
      go_wp2_with fail
      go_ret
      exact ⟨_, rfl, by rw [ByteArray.size_append]; exact Nat.le_trans (Nat.add_le_add (Nat.le_of_eq rfl : _ ≤ 6) hq) (by omega), hid (by rw [HW.out, ← HQ.out]; simp), HB0.out⟩
  · have HW : Hid (Pn.shwC ⟨4, num, ⟨op, rd, rs1, rs2, imm⟩⟩ = t) := hid (by rw [HV.out]; simp)
    clear HSW HST HV
    have htl := HL.out
    go_wp2_with fail
    go_ret
    exact ⟨_, rfl, by rw [sz_mk]; omega, hid (by rw [HW.out]), HB0.out⟩
end Go.Proofs.YtbmcofdodfcnnaaGreatDoor
