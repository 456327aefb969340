import Derived.Test.YtbmcofdodfcnnaaGreatDoorGAH
import Derived.Lib.QuietBelow
import Derived.Test.YtbmcofdodfcnnaaGreatDoorAB
namespace Go.Proofs.YtbmcofdodfcnnaaGreatDoor
open Go.RowKit
/-- the bytes of the first j parts -/
def pby (l : List Pt) : Nat → List UInt8
  | 0 => []
  | j + 1 => pby l j ++ (match l[j]? with | some x => Pn.bytN 4 (Pn.enc x.1).1 | none => [])
theorem pby_len (l : List Pt) (j : Nat) : (pby l j).length ≤ 4 * j := by
  induction j with
  | zero => simp [pby]
  | succ j ih =>
    simp only [pby, List.length_append]
    cases l[j]? with
    | none => simp; omega
    | some x => simp only [Pn.bytN_len]; omega
/-- bytes' state -/
structure BS (w0 : World) (b g cap : Nat) (mv : Value) (l : List Pt) (j : Nat) (w : World) : Prop where
  p : PgAt b g cap mv l w
  f : CellsAt w0.heap.size [.int .i64 0, .int .i64 0] w
  d : Lib.IsBuilder 134 5 (w0.heap.size + 1) (w0.heap.size + 1) (Lib.byteCells (pby l j)) w
  b : Below w0.heap.size w0 w
theorem at_next {T e : TypeId} {B b : Nat} {p : Value} {bs : List Value} {w w' : World} (h : Lib.BuilderAt T e B b p bs w) (hB : Below w.heap.size w w') : Lib.BuilderAt T e B b p bs w' := by
  have hl := h.lt
  obtain ⟨h1, v, hb, ho, hne⟩ := h
  exact ⟨h1, v, (hB.block b hl).trans hb, own_next ho hB, hne⟩
theorem is_next {T e : TypeId} {B b : Nat} {bs : List Value} {w w' : World} (h : Lib.IsBuilder T e B b bs w) (hB : Below w.heap.size w w') : Lib.IsBuilder T e B b bs w' := by
  rcases h with h | h
  · exact .inl (at_next h hB)
  · exact .inr (at_next h hB)
theorem BS.next {w0 : World} {b g cap : Nat} {mv : Value} {l : List Pt} {j : Nat} {w w' : World} (h : BS w0 b g cap mv l j w) (hB : Below w.heap.size w w') : BS w0 b g cap mv l j w' :=
  ⟨h.p.next hB, h.f.next hB, is_next h.d hB, h.b.trans (hB.mono h.b.size)⟩
theorem PgAt.step {b g cap : Nat} {mv : Value} {l : List Pt} {w w' : World} {B : Nat} (h : PgAt b g cap mv l w) (hB : Below B w w') (h1 : b < B) (h2 : g < B) : PgAt b g cap mv l w' :=
  ⟨(hB.cell (p := ⟨b, 0, none⟩) h1).trans h.c0, (hB.cell (p := ⟨b, 1, none⟩) h1).trans h.c1, Nat.lt_of_lt_of_le h.bl hB.size, Nat.lt_of_lt_of_le h.gl hB.size, h.ne, fun q => (hB.frozen (p := ⟨b, q, none⟩) h1).trans (h.fb q), fun q => (hB.frozen (p := ⟨g, q, none⟩) h2).trans (h.fg q), fun k x hk j u hj => (hB.cell (p := ⟨g, k * 9 + j, none⟩) h2).trans (h.at' k x hk j u hj)⟩
theorem strCells_eq (l : List UInt8) : Lib.strCells ⟨l.toArray⟩ = Lib.byteCells l := by simp [Lib.strCells, Lib.byteCells]
/-- more bytes are written -/
theorem BS.more {w0 : World} {b g cap : Nat} {mv : Value} {l : List Pt} {j : Nat} {x : Pt} {w w' : World} (h : BS w0 b g cap mv l j w) (hb : b < w0.heap.size) (hg : g < w0.heap.size) (hx : l[j]? = some x)
    (hw : Lib.BuilderAt 134 5 (w0.heap.size + 1) (w0.heap.size + 1) (.pointer (some ⟨w0.heap.size + 1, 0, none⟩)) (Lib.byteCells (pby l j) ++ Lib.strCells ⟨(Pn.bytN 4 (Pn.enc x.1).1).toArray⟩) w') (hB : Below (w0.heap.size + 1) w w') : BS w0 b g cap mv l (j + 1) w' := by
  refine ⟨h.p.step hB (by omega) (by omega), h.f.step hB (by omega), .inr ?_, h.b.trans (hB.mono (by omega))⟩
  have e : Lib.byteCells (pby l (j + 1)) = Lib.byteCells (pby l j) ++ Lib.strCells ⟨(Pn.bytN 4 (Pn.enc x.1).1).toArray⟩ := by
    rw [strCells_eq]
    simp [pby, hx, Lib.byteCells]
  rw [e]
  exact hw
set_option maxRecDepth 20000 in
set_option maxHeartbeats 4000000 in
theorem pbytes_long (b g cap : Nat) (mv sl : Value) (l : List Pt) (w : World) (h : PgAt b g cap mv l w) (ht : ∀ x ∈ l, x.2.1 = [] ∧ x.2.2.2 = 4 ∧ (Pn.enc x.1).2 = 0) (hn : l.length ≤ 1000000) :
    Calls Tryz.prog 81 #[.pointer (some ⟨b, 0, none⟩), sl] w fun e w' => e = .returned (.tuple #[.string ⟨(pby l l.length).toArray⟩, .agg #[.int .i64 0, .int .i64 0]]) ∧ Below w.heap.size w w' := by
  have HP := hid h
  have HT := hid ht
  have c0 := h.c0
  have bl := h.bl
  have hgl := h.gl
  clear h ht
  go_enter Tryz.func81, Tryz.ntmps81
  go_wp2_with fail
  clear c0
  go_loopw [16] (fun i wr => ∃ j : Nat, j ≤ l.length ∧ i = .int .i64 j ∧ BS w b g cap mv l j wr) (fun i _ => l.length - (intOf i).toNat)
  case atStart =>
    refine ⟨0, Nat.zero_le _, rfl, HP.out.next ?_, (CellsAt.new w [.int .i64 0, .int .i64 0] 39).alloc _, .inl ⟨Nat.le_refl _, .slice none 0 0, ?_, World.ownsRow_nil _ _ _ _, by simp [Value.ownBlock]⟩, ?_⟩
    · exact ((Below.refl _ _).alloc (Nat.le_refl _) _).alloc (by rw [World.size_alloc]; omega) _
    · have := heap_alloc_last (w.alloc (.cells #[.int .i64 0, .int .i64 0] 39)) (.cells #[.pointer none, .slice none 0 0] 134)
      rw [World.size_alloc] at this
      exact this
    · exact ((Below.refl _ _).alloc (Nat.le_refl _) _).alloc (by rw [World.size_alloc]; omega) _
  case round =>
    obtain ⟨j, hj, rfl, hS⟩ := hrel
    by_cases hlt : j < l.length
    · obtain ⟨⟨i, tg, line, size⟩, hx⟩ : ∃ x, l[j]? = some x := ⟨_, List.getElem?_eq_getElem hlt⟩
      obtain ⟨htg, hsz, hen⟩ := HT.out _ (List.mem_of_getElem? hx)
      simp only at htg hsz hen
      subst htg
      subst hsz
      have gl := hS.p.gl
      have p0 := hS.p.at' j _ hx 0 _ rfl
      have p1 := hS.p.at' j _ hx 1 _ rfl
      have p2 := hS.p.at' j _ hx 2 _ rfl
      have p3 := hS.p.at' j _ hx 3 _ rfl
      have p4 := hS.p.at' j _ hx 4 _ rfl
      have p5 := hS.p.at' j _ hx 5 _ rfl
      have p6 := hS.p.at' j _ hx 6 _ rfl
      have p7 := hS.p.at' j _ hx 7 _ rfl
      have p8 := hS.p.at' j _ hx 8 _ rfl
      simp only [Nat.add_zero] at p0 p1 p2 p3 p4 p5 p6 p7 p8
      have hji : (j : Int) < l.length := by omega
      have HS := hid hS
      have HX := hid hx
      have HPB := hid (fun w' => partBytes_long i i [] line w' hen)
      unfold apart Pn.partCells at HPB
      simp only [List.cons_append, List.nil_append] at HPB
      clear hS hx
      go_wp2_with fail
      have HS2 := hid (HS.out.next ((Below.refl _ _).alloc (Nat.le_refl _) (.cells #[.string ⟨#[]⟩, .int .i64 i.op, .int .i64 i.rd, .int .i64 i.rs1, .int .i64 i.rs2, .int .i64 i.imm, .string ⟨#[]⟩, .int .i64 line, .int .i64 4] 202)))
      have hcp := CellsAt.new wr [.string ⟨#[]⟩, .int .i64 i.op, .int .i64 i.rd, .int .i64 i.rs1, .int .i64 i.rs2, .int .i64 i.imm, .string ⟨#[]⟩, .int .i64 line, .int .i64 4] 202
      have k0 := cell_regrown (hcp.2.2 0 _ rfl)
      have k1 := cell_regrown (hcp.2.2 1 _ rfl)
      have k2 := cell_regrown (hcp.2.2 2 _ rfl)
      have k3 := cell_regrown (hcp.2.2 3 _ rfl)
      have k4 := cell_regrown (hcp.2.2 4 _ rfl)
      have k5 := cell_regrown (hcp.2.2 5 _ rfl)
      have k6 := cell_regrown (hcp.2.2 6 _ rfl)
      have k7 := cell_regrown (hcp.2.2 7 _ rfl)
      have k8 := cell_regrown (hcp.2.2 8 _ rfl)
      clear hcp p0 p1 p2 p3 p4 p5 p6 p7 p8 HS gl
      generalize wr.alloc _ = W at HS2 k0 k1 k2 k3 k4 k5 k6 k7 k8 ⊢
      refine wp_region_quiet_below (by kernel_rfl) (by kernel_rfl) ?_
      repeat (quiet_step (first
        | (go_at_call 146; exact Calls.regrown_of (placed_plain b g cap mv l j i line 4 sl _ (HS2.out.p.next (below_regrown _ _ _)) HX.out))
        | (go_at_call 145; exact Calls.regrown_of (HPB.out _))))
      refine wpQuiet_nil ?_
      intro _ hw'
      obtain ⟨⟨dq, osq⟩, hw''⟩ := hw'
      subst hw''
      have HS3 := hid (HS2.out.next (below_regrown W dq osq))
      clear k0 k1 k2 k3 k4 k5 k6 k7 k8 HS2 HPB
      simp only at *
      generalize Go.Sort.grow (redrawn W dq) osq = W3 at *
      go_wp2_with fail
      refine (writeString_is (w.heap.size + 1) (w.heap.size + 1) (Lib.byteCells (pby l j)) ⟨(Pn.bytN 4 (Pn.enc i).1).toArray⟩ _ HS3.out.d (by have := pby_len l j; simp [Lib.byteCells, ByteArray.size, Pn.bytN_len]; omega) (by have := HS3.out.f.1; omega)).mono ?_
      rintro e w5 ⟨rfl, hbd, hB5⟩
      have HS5 := hid (BS.more HS3.out bl hgl HX.out hbd hB5)
      clear hbd hB5
      go_wp2_with fail
      go_roundw
      case rel => exact ⟨j + 1, by omega, by go_num, HS5.out⟩
      case measure => simp [intOf]; omega
    · have hjn : j = l.length := by omega
      subst hjn
      have HS := hid hS
      have f0 := hS.f.2.2 0 _ rfl
      have f1 := hS.f.2.2 1 _ rfl
      clear hS
      go_wp2_with fail
      refine (Tryz.Builder_String_any (w.heap.size + 1) (w.heap.size + 1) (pby l l.length) _ HS.out.d (by have := HS.out.f.1; omega)).mono ?_
      rintro e w2 ⟨rfl, hB2⟩
      have q0 := (HS.out.f.step hB2 (by omega)).2.2 0 _ rfl
      have q1 := (HS.out.f.step hB2 (by omega)).2.2 1 _ rfl
      have qf := (HS.out.f.step hB2 (by omega)).2.1
      have HB2 := hid (HS.out.b.trans (hB2.mono (by omega)))
      clear hB2
      go_wp2_with fail
      refine bodyPost_ret (v := .tuple #[.string ⟨(pby l l.length).toArray⟩, .agg #[.int .i64 0, .int .i64 0]]) (by simp [results, Tryz.results81, go_sem, q0, q1]) rfl ⟨rfl, ?_⟩
      exact (HB2.out.setCell (Nat.le_refl _) _).setCell (Nat.le_refl _) _
end Go.Proofs.YtbmcofdodfcnnaaGreatDoor

namespace Go.Proofs.YtbmcofdodfcnnaaGreatDoor
open Go.RowKit
theorem infoPart : (Tryz.prog.info? 202).map (fun i => (i.zero, i.size, i.bytes)) = some (some (.agg #[.string ⟨#[]⟩, .int .i64 0, .int .i64 0, .int .i64 0, .int .i64 0, .int .i64 0, .string ⟨#[]⟩, .int .i64 0, .int .i64 0]), 9, 88) := by kernel_rfl
/-- what stands when a part has been put behind the others -/
def AddOut (b : Nat) (mv v : Value) (n : Nat) (xs ys : List Value) (base : Nat) (w w' : World) : Prop :=
  ∃ v', CellsAt b [v', mv] w' ∧ w'.ownsRow base 202 9 v' (n + 1) (xs ++ ys) ∧ v'.ownBlock ≠ some b ∧ Keeps b v.ownBlock w w'
theorem add_out {b n base gg cap : Nat} {mv v : Value} {xs ys : List Value} {w W w9 : World} {o : Obj} (hB : Below w.heap.size w W) (hC : CellsAt b [v, mv] W)
    (hne : v.ownBlock ≠ some b) (hgrow : (W.alloc o).drew.grownBy w9 v.ownBlock) (hat : v.ownBlock = some gg ∨ gg = W.heap.size + 1)
    (hown : w9.ownsRow base 202 9 (.slice (some ⟨gg, 0, none⟩) (n + 1) cap) (n + 1) (xs ++ ys)) :
    AddOut b mv v n xs ys base w (w9.setCell ⟨b, 0, none⟩ (.slice (some ⟨gg, 0, none⟩) (n + 1) cap)) := by
  have hz := hC.1
  have hgc : gg ≠ b := by
    rcases hat with h | h
    · exact fun e => hne (by rw [h, e])
    · omega
  have hk1 : Keeps b v.ownBlock w (W.alloc o).drew := Keeps.of_below (hB.trans ((((Below.refl W.heap.size W).alloc (Nat.le_refl _) o).drew).mono hB.size))
  have hk2 : Keeps b v.ownBlock (W.alloc o).drew w9 := Keeps.of_grown hgrow
  have hC2 : CellsAt b [v, mv] (W.alloc o).drew := hC.next (((Below.refl W.heap.size W).alloc (Nat.le_refl _) o).drew)
  have hC9 : CellsAt b [v, mv] w9 := by
    have e := hgrow.block b hC2.1 (fun e => hne e.symm)
    exact ⟨Nat.lt_of_lt_of_le hC2.1 hgrow.size, fun q => (World.frozen?_of_block (a := ⟨b, q, none⟩) e).trans (hC2.2.1 q), fun j u hj => (World.cell?_of_block (a := ⟨b, j, none⟩) e).trans (hC2.2.2 j u hj)⟩
  refine ⟨_, hC9.set 0 _ (by simp), ownsRow_of_block hown (fun g hg => ?_), ?_, (hk1.trans hk2).trans (Keeps.setCell b _ w9 0 _)⟩
  · have : gg = g := by simpa [Value.ownBlock] using hg
    subst this
    exact Below.heap_setCell _ _ _ _ (fun e => hgc e)
  · show some gg ≠ some b
    intro e
    exact hgc (by simpa using e)
set_option maxRecDepth 100000 in
set_option maxHeartbeats 8000000 in
theorem add_one (b base n : Nat) (s : ByteArray) (number : Int) (mv v : Value) (xs : List Value) (i : Pn.Ins) (tg : List UInt8) (w : World) (hC : CellsAt b [v, mv] w) (hown : w.ownsRow base 202 9 v n xs) (hne : v.ownBlock ≠ some b) (hbase : base ≤ w.heap.size) (hn : n ≤ 1000000)
    (HRL : Calls Tryz.prog 193 #[.string s] w fun e w' => ∃ g, e = .returned (.tuple #[.agg #[.string ⟨#[]⟩, .slice (some ⟨g, 0, none⟩) 1 1], .int .i64 0]) ∧ w.heap.size ≤ g ∧ CellsAt g (Pn.partCells i tg) w' ∧ Below w.heap.size w w') :
    Calls Tryz.prog 141 #[.pointer (some ⟨b, 0, none⟩), .string s, .int .i64 number] w fun e w' => e = .returned (.int .i64 0) ∧ AddOut b mv v n xs (apart i tg number 0) base w w' := by
  obtain ⟨i0, hi, hz0, hz1, hz2⟩ := info_parts infoPart
  have HR := hid HRL
  have HC := hid hC
  have HO := hid hown
  clear HRL hC hown
  go_enter Tryz.func141, Tryz.ntmps141
  go_wp2_with fail
  refine (HR.out).mono ?_
  rintro e w1 ⟨g, rfl, hg, hG, hB1⟩
  have hG' := hid hG
  have HB1 := hid hB1
  clear hG hB1 HR
  go_wp2_with fail
  have HGW := hid (hG'.out.next ((Below.refl _ _).alloc (Nat.le_refl _) (.cells #[.string ⟨#[]⟩, .slice (some ⟨g, 0, none⟩) 1 1] 255)))
  have HBW : Hid (Below w.heap.size w (w1.alloc (.cells #[.string ⟨#[]⟩, .slice (some ⟨g, 0, none⟩) 1 1] 255))) := hid (HB1.out.alloc HB1.out.size _)
  clear hG' HB1
  generalize w1.alloc (.cells #[.string ⟨#[]⟩, .slice (some ⟨g, 0, none⟩) 1 1] 255) = W at *
  go_loopw [49] (fun k wr => (k = .int .i64 0 ∧ wr = W) ∨ (k = .int .i64 1 ∧ AddOut b mv v n xs (apart i tg number 0) base w wr)) (fun k _ => 2 - (intOf k).toNat)
  case atStart => exact .inl ⟨rfl, rfl⟩
  case round =>
    rcases hrel with ⟨rfl, rfl⟩ | ⟨rfl, hout⟩
    · have p0 := HGW.out.2.2 0 _ rfl
      have p1 := HGW.out.2.2 1 _ rfl
      have p2 := HGW.out.2.2 2 _ rfl
      have p3 := HGW.out.2.2 3 _ rfl
      have p4 := HGW.out.2.2 4 _ rfl
      have p5 := HGW.out.2.2 5 _ rfl
      have p6 := HGW.out.2.2 6 _ rfl
      have hgl := HGW.out.1
      go_wp2_with fail
      have HOW := hid (own_next (own_next HO.out HBW.out) ((Below.refl _ _).alloc (Nat.le_refl _) (.cells #[.string ⟨#[]⟩, .int .i64 i.op, .int .i64 i.rd, .int .i64 i.rs1, .int .i64 i.rs2, .int .i64 i.imm, .string ⟨tg.toArray⟩] 193)))
      have HBV := hid (HBW.out.alloc HBW.out.size (.cells #[.string ⟨#[]⟩, .int .i64 i.op, .int .i64 i.rd, .int .i64 i.rs1, .int .i64 i.rs2, .int .i64 i.imm, .string ⟨tg.toArray⟩] 193))
      have HCV := hid (HC.out.next HBV.out)
      have HN : Hid (CellsAt wr.heap.size (Pn.partCells i tg) (wr.alloc (.cells #[.string ⟨#[]⟩, .int .i64 i.op, .int .i64 i.rd, .int .i64 i.rs1, .int .i64 i.rs2, .int .i64 i.imm, .string ⟨tg.toArray⟩] 193))) := hid (CellsAt.new wr (Pn.partCells i tg) 193)
      have hwz := HBV.out.size
      clear p0 p1 p2 p3 p4 p5 p6 hgl HGW
      generalize wr.alloc (.cells #[.string ⟨#[]⟩, .int .i64 i.op, .int .i64 i.rd, .int .i64 i.rs1, .int .i64 i.rs2, .int .i64 i.imm, .string ⟨tg.toArray⟩] 193) = W at *
      have p0 := HN.out.2.2 0 _ rfl
      have p1 := HN.out.2.2 1 _ rfl
      have p2 := HN.out.2.2 2 _ rfl
      have p3 := HN.out.2.2 3 _ rfl
      have p4 := HN.out.2.2 4 _ rfl
      have p5 := HN.out.2.2 5 _ rfl
      have p6 := HN.out.2.2 6 _ rfl
      have pl := HN.out.1
      have c0 := HCV.out.2.2 0 _ rfl
      have cf := HCV.out.2.1 0
      have hbW := HCV.out.1
      have hbaseW : base ≤ W.heap.size := by omega
      go_region_law
        ((refine step_append_lies _ (by rfl) _ _ _ (by rfl) base 202 i0 _ 9 88 Tryz.underlying145 hi hz0 hz1 hz2 rfl (by omega) v n xs (by rfl) ((HOW.out.alloc _).drew)
            ⟨W.heap.size, 0, none⟩ 1 1 (apart i tg number 0) (by rfl) (by rfl) (World.news_of_block (cs := (apart i tg number 0).toArray) (t := 202) (fr := (0, 0)) (heap_alloc_new W _)) (by simp [Value.oneCell', apart, Pn.partCells])
            (by omega) (by unfold maxLen; omega) (by omega) (by simp; omega) (W.heap.size + 1) (by simp) ?_; intro gg cap w9 hown9 hgrow hat hlt; have q1 : w9.cell? ⟨b, 0, none⟩ = some v := (hgrow.cell_far _ (by simp; omega) (Ne.symm hne)).trans (by simp [c0, World.cell?_alloc_some]); have qf : w9.frozen? ⟨b, 0, none⟩ = false := (hgrow.frozen_far _ (by simp; omega) (Ne.symm hne)).trans (by simp [cf, World.frozen?_alloc_old, Nat.ne_of_lt hbW])))
      all_goals
        have HOUT := hid (add_out HBV.out HCV.out hne hgrow hat hown9)
        clear hown9 hgrow hat q1 qf hlt
        generalize w9.setCell ⟨b, 0, none⟩ _ = Z at *
        go_wp2_with fail
        go_roundw
        case rel => exact .inr ⟨by go_num, HOUT.out⟩
        case measure => simp [intOf]
    · go_wp2_with fail
      go_ret
      exact ⟨rfl, hout⟩
end Go.Proofs.YtbmcofdodfcnnaaGreatDoor
