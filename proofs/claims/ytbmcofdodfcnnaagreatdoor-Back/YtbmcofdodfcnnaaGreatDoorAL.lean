import Derived.Test.YtbmcofdodfcnnaaGreatDoorGAJ
import Derived.Maps.OwnSet
import Derived.StringKeys
import Derived.Lib.SplitLaws
import Derived.Lib.ReplaceLaws
namespace Go.Proofs.YtbmcofdodfcnnaaGreatDoor
open Go.RowKit Go.Maps
/-- the parts of a text whose lines are instructions -/
def rpl (is : List Pn.Ins) : List Pt := is.mapIdx fun k i => (i, [], (k : Int) + 1, 0)
theorem rpl_len (is : List Pn.Ins) : (rpl is).length = is.length := by simp [rpl]
theorem rpl_at (is : List Pn.Ins) (k : Nat) (i : Pn.Ins) (h : is[k]? = some i) : (rpl is)[k]? = some (i, [], (k : Int) + 1, 0) := by simp [rpl, h]
def rpc (is : List Pn.Ins) (j : Nat) : List Value := ((rpl is).take j).flatMap ptC
theorem rpc_succ (is : List Pn.Ins) (j : Nat) (i : Pn.Ins) (h : is[j]? = some i) : rpc is (j + 1) = rpc is j ++ apart i [] ((j : Int) + 1) 0 := by
  have hj : j < (rpl is).length := by
    rw [rpl_len]
    rcases Nat.lt_or_ge j is.length with h' | h'
    · exact h'
    · rw [List.getElem?_eq_none h'] at h; cases h
  have e : (rpl is).take (j + 1) = (rpl is).take j ++ [(i, [], (j : Int) + 1, 0)] := by
    rw [List.take_add_one, rpl_at is j i h]
    rfl
  unfold rpc
  rw [e, List.flatMap_append]
  simp [ptC]
/-- the slice of the parts -/
theorem own_parts {w : World} {base : Nat} {v : Value} {l : List Pt} (h : w.ownsRow base 202 9 v l.length (l.flatMap ptC)) (hn : 0 < l.length) :
    ∃ g cap, v = .slice (some ⟨g, 0, none⟩) l.length cap ∧ base ≤ g ∧ g < w.heap.size ∧ (∀ q, w.frozen? ⟨g, q, none⟩ = false) ∧ ∀ k x, l[k]? = some x → ∀ j u, (ptC x)[j]? = some u → w.cell? ⟨g, k * 9 + j, none⟩ = some u := by
  have h' := h
  obtain ⟨h1, ⟨rfl, h0⟩ | ⟨g, cap, cur, rfl, hg, hc, h3⟩⟩ := h
  · omega
  · refine ⟨g, cap, rfl, hg, (h'.lt g rfl).2, fun q => h'.frozenAt q, fun k x hk j u hu => ?_⟩
    have hkl : k < l.length := by
      rcases Nat.lt_or_ge k l.length with h | h
      · exact h
      · rw [List.getElem?_eq_none h] at hk; cases hk
    have hj9 : j < 9 := by
      rcases Nat.lt_or_ge j 9 with h | h
      · exact h
      · rw [List.getElem?_eq_none (by simpa [ptC, apart, Pn.partCells] using h)] at hu; cases hu
    have hf := Pn.flat_get ptC 9 (fun _ => rfl) l k j hj9 hkl
    rw [hk] at hf
    simp only [Option.bind_some] at hf
    rw [hu] at hf
    have := h'.cells rfl (9 * k + j) u hf
    have hadd : (⟨g, 0, none⟩ : Addr).add (9 * k + j) = ⟨g, k * 9 + j, none⟩ := by
      simp only [Addr.add]
      rw [Nat.mul_comm 9 k]; simp; omega
    rw [hadd] at this
    exact this
/-- what stands while the lines are read -/
structure RP (w0 : World) (ss : List Value) (is : List Pn.Ins) (j : Nat) (v : Value) (w : World) : Prop where
  r : CellsAt w0.heap.size [.slice none 0 0, .map none] w
  e : CellsAt (w0.heap.size + 1) [.int .i64 0, .int .i64 0] w
  m : w.ownsMap (H := Unit) Tryz.prog 9 (plainElem Tryz.prog 3) (w0.heap.size + 2) 0 (.map [])
  p : CellsAt (w0.heap.size + 3) [v, .map (some (w0.heap.size + 2))] w
  s : CellsAt (w0.heap.size + 4) ss w
  o : w.ownsRow (w0.heap.size + 5) 202 9 v j (rpc is j)
  b : Below w0.heap.size w0 w
theorem RP.next {w0 : World} {ss : List Value} {is : List Pn.Ins} {j : Nat} {v : Value} {w w' : World} (h : RP w0 ss is j v w) (hB : Below w.heap.size w w') : RP w0 ss is j v w' :=
  ⟨h.r.next hB, h.e.next hB, by
    have hlt := h.m.lt
    obtain ⟨es, clock, hb, F, hs, hD⟩ := h.m
    exact ⟨es, clock, (hB.block _ hlt).trans hb, F, hs, hD⟩, h.p.next hB, h.s.next hB, own_next h.o hB, h.b.trans (hB.mono h.b.size)⟩
theorem RP.more {w0 : World} {ss : List Value} {is : List Pn.Ins} {j : Nat} {v : Value} {i : Pn.Ins} {w w' : World} (h : RP w0 ss is j v w) (hi : is[j]? = some i) (ha : AddOut (w0.heap.size + 3) (.map (some (w0.heap.size + 2))) v j (rpc is j) (apart i [] ((j : Int) + 1) 0) (w0.heap.size + 5) w w') : ∃ v', RP w0 ss is (j + 1) v' w' := by
  obtain ⟨v', hp, ho, hne, hk⟩ := ha
  have hlt := fun k hk => (h.o.lt k hk).1
  have hne' : ∀ d, d < w0.heap.size + 5 → v.ownBlock ≠ some d := fun d hd e => by have := hlt d e; omega
  refine ⟨v', h.r.keeps hk (by omega) (hne' _ (by omega)), h.e.keeps hk (by omega) (hne' _ (by omega)), ?_, hp, h.s.keeps hk (by omega) (hne' _ (by omega)), by rw [rpc_succ is j i hi]; exact ho, hk.below h.b (by omega) (fun d hd => by have := hlt d hd; omega) (Nat.le_refl _)⟩
  have hml := h.m.lt
  obtain ⟨es, clock, hb, F, hs, hD⟩ := h.m
  exact ⟨es, clock, (hk.block _ hml (by omega) (hne' _ (by omega))).trans hb, F, hs, hD⟩
theorem rp_b4 (w : World) (a b c d : Obj) : Below w.heap.size w ((((w.alloc a).alloc b).alloc c).alloc d) := by
  refine ((((Below.refl w.heap.size w).alloc ?_ _).alloc ?_ _).alloc ?_ _).alloc ?_ _ <;> (try simp only [World.size_alloc]) <;> omega
theorem rp_start (w : World) (ss : List Value) (is : List Pn.Ins) : RP w ss is 0 (.slice none 0 0) (((((w.alloc (.cells #[.slice none 0 0, .map none] 148)).alloc (.cells #[.int .i64 0, .int .i64 0] 39)).alloc (.map #[] 0)).alloc (.cells #[.slice none 0 0, .map (some (w.heap.size + 1 + 1))] 148)).alloc (.cells ss.toArray 9)) := by
  have h1 := CellsAt.new w [.slice none 0 0, .map none] 148
  have h2 := CellsAt.new (w.alloc (.cells #[.slice none 0 0, .map none] 148)) [.int .i64 0, .int .i64 0] 39
  have h3 := World.ownsMap_made (H := Unit) ((w.alloc (.cells #[.slice none 0 0, .map none] 148)).alloc (.cells #[.int .i64 0, .int .i64 0] 39)) Tryz.prog 9 (plainElem Tryz.prog 3)
  have h4 := CellsAt.new (((w.alloc (.cells #[.slice none 0 0, .map none] 148)).alloc (.cells #[.int .i64 0, .int .i64 0] 39)).alloc (.map #[] 0)) [.slice none 0 0, .map (some (w.heap.size + 1 + 1))] 148
  have h5 := CellsAt.new ((((w.alloc (.cells #[.slice none 0 0, .map none] 148)).alloc (.cells #[.int .i64 0, .int .i64 0] 39)).alloc (.map #[] 0)).alloc (.cells #[.slice none 0 0, .map (some (w.heap.size + 1 + 1))] 148)) ss 9
  simp only [World.size_alloc] at h2 h3 h4 h5
  exact ⟨(((h1.alloc _).alloc _).alloc _).alloc _, ((h2.alloc _).alloc _).alloc _, (h3.alloc _).alloc _, h4.alloc _, h5, World.ownsRow_nil _ _ _ _, (rp_b4 w _ _ _ _).alloc (by simp only [World.size_alloc]; omega) _⟩
theorem own_far {w : World} {base g n cap : Nat} {e : TypeId} {size : Nat} {m : Nat} {xs : List Value} (h : w.ownsRow base e size (.slice (some ⟨g, 0, none⟩) n cap) m xs) (c q : Nat) (u : Value) (hc : c ≠ g) : (w.setCell ⟨c, q, none⟩ u).ownsRow base e size (.slice (some ⟨g, 0, none⟩) n cap) m xs :=
  ownsRow_of_block h (fun k hk => by
    have : g = k := by simpa [Value.ownBlock] using hk
    subst this
    exact Below.heap_setCell _ _ _ _ (fun e => hc e.symm))
theorem strKey : Keyed Tryz.prog 9 := string_keyed Tryz.underlying9
theorem zeroI (w : World) : (zeroValue 3).run Tryz.prog w = .ok (.int .i64 0) w := by kernel_rfl
theorem rp_look {w0 : World} {ss : List Value} {is : List Pn.Ins} {j : Nat} {v : Value} {w : World} (h : RP w0 ss is j v w) : ∃ c, (Instr.lookup 146 (.map (some (w0.heap.size + 2))) (.string ⟨#[]⟩) true).run Tryz.prog w = .ok (.tuple #[.int .i64 c, .bool false]) w := by
  obtain ⟨v, ps, hrun, hv⟩ := h.m.look_ok strKey Tryz.underlying146 (zeroI _) (plainElem_int Tryz.underlying3 (by decide)) (Go.WideMaps.keyOf_string_mk Tryz.underlying9 (s := ⟨#[]⟩) (by unfold maxLen; decide))
  obtain ⟨c, rfl, _, _⟩ := plainElem_int_inv Tryz.underlying3 hv
  exact ⟨c, hrun⟩
set_option maxRecDepth 20000 in
set_option maxHeartbeats 4000000 in
theorem readProgram_ins (s : ByteArray) (ls : List ByteArray) (is : List Pn.Ins) (w : World) (hE : Env w) (hs : s.size ≤ 100000) (hls : Lib.splitB ⟨#[10]⟩ 0 (Lib.countB s ⟨#[10]⟩) s = ls) (hil : is.length = ls.length)
    (hRL : ∀ (j : Nat) (t : ByteArray) (i : Pn.Ins), ls[j]? = some t → is[j]? = some i → ∀ W, Env W → Calls Tryz.prog 193 #[.string t] W fun e w' => ∃ g, e = .returned (.tuple #[.agg #[.string ⟨#[]⟩, .slice (some ⟨g, 0, none⟩) 1 1], .int .i64 0]) ∧ W.heap.size ≤ g ∧ CellsAt g (Pn.partCells i []) w' ∧ Below W.heap.size W w') :
    Calls Tryz.prog 79 #[.string s] w fun e w' => ∃ v mb, e = .returned (.tuple #[.agg #[v, .map (some mb)], .agg #[.int .i64 0, .int .i64 0]]) ∧ w'.ownsRow w.heap.size 202 9 v is.length ((rpl is).flatMap ptC) ∧ Below w.heap.size w w' := by
  have hll : Lib.countB s ⟨#[10]⟩ + 1 = ls.length := by rw [← hls, Lib.splitB_all ⟨#[10]⟩ (by decide) 0 _ s rfl]
  have hmm := @run_makeMap Tryz.prog
  have HSP := hid (fun W m hm => Tryz.strings_Split s ⟨#[10]⟩ m W (by omega) hm (by decide))
  rw [hls, hll] at HSP
  have HEW := hid (fun w' (hB : Below w.heap.size w w') => hE.below hB hE.1)
  have hn0 : ls.length ≤ 100001 := by
    have := Lib.countB_mul_le ⟨#[10]⟩ (by decide) _ s (Nat.le_refl _)
    have e1 : (⟨#[10]⟩ : ByteArray).size = 1 := rfl
    rw [e1] at this
    omega
  have hpos : 0 < ls.length := by omega
  have HRL := hid hRL
  obtain ⟨m, hm0⟩ := hE.2.2.1
  have hg0 := hE.1
  clear hRL hE
  go_enter Tryz.func79, Tryz.ntmps79
  go_wp2_with fail
  refine (HSP.out _ m ((rp_b4 w _ _ _ _).cell (p := ⟨0, 0, none⟩) (by show 0 < w.heap.size; omega) |>.trans hm0)).mono ?_
  rintro e w1 ⟨rfl, hw1⟩
  have HR0 : Hid (RP w (ls.map Value.string) is 0 (.slice none 0 0) w1) := hid (by
    subst hw1
    exact rp_start w _ is)
  clear hw1 HSP hm0
  go_wp2_with fail
  go_loopw [17] (fun i wr => ∃ j v, j ≤ ls.length ∧ i = .int .i64 (j : Nat) ∧ RP w (ls.map Value.string) is j v wr) (fun i _ => ls.length - (intOf i).toNat)
  case atStart => exact ⟨0, _, Nat.zero_le _, rfl, HR0.out⟩
  case round =>
    obtain ⟨j, v, hj, rfl, hR⟩ := hrel
    by_cases hlt : j < ls.length
    · obtain ⟨t, ht⟩ : ∃ t, ls[j]? = some t := ⟨_, List.getElem?_eq_getElem hlt⟩
      obtain ⟨i, hi⟩ : ∃ i, is[j]? = some i := ⟨_, List.getElem?_eq_getElem (by omega)⟩
      have HR := hid hR
      have cs := hR.s.2.2 j (.string t) (by simp [ht])
      have hsl := hR.s.1
      have hji : (j : Int) < ls.length := by omega
      have hji' : (j : Int) < 1000000 := by omega
      have HA := hid (add_one (w.heap.size + 3) (w.heap.size + 5) j t ((j : Int) + 1) (.map (some (w.heap.size + 2))) v (rpc is j) i [] wr hR.p hR.o (fun e => by have := (hR.o.lt _ e).1; omega) (by have := hR.s.1; omega) (by omega) (HRL.out j t i ht hi wr (HEW.out wr hR.b)))
      have HI := hid hi
      clear hR ht hi
      go_wp2_with fail
      refine HA.out.mono ?_
      rintro e w2 ⟨rfl, hout⟩
      obtain ⟨v', hR'⟩ := HR.out.more HI.out hout
      have HR' := hid hR'
      clear hout hR'
      go_wp2_with fail
      go_roundw
      case rel => exact ⟨j + 1, v', by omega, by go_num, HR'.out⟩
      case measure => simp [intOf]; omega
    · have hjn : j = ls.length := by omega
      subst hjn
      obtain ⟨wa, hwa⟩ : ∃ x, x = wr := ⟨_, rfl⟩
      subst hwa
      have HR := hid hR
      have ho : wa.ownsRow (w.heap.size + 5) 202 9 v (rpl is).length ((rpl is).flatMap ptC) := by
        have := hR.o
        unfold rpc at this
        rw [← hil] at this
        rw [rpl_len]
        rwa [List.take_of_length_le (by rw [rpl_len]; omega)] at this
      obtain ⟨g, cap, rfl, hg, hgl, hfg, hat⟩ := own_parts ho (by rw [rpl_len]; omega)
      rw [rpl_len, hil] at hR HR ho
      have c0 := hR.p.2.2 0 _ rfl
      have hpl := hR.p.1
      clear hR
      go_wp2_with fail
      go_loopw [37] (fun i wx => ∃ j : Nat, j ≤ ls.length ∧ i = .int .i64 j ∧ Below wa.heap.size wa wx) (fun i _ => ls.length - (intOf i).toNat)
      case atStart => exact ⟨0, Nat.zero_le _, rfl, Below.refl _ _⟩
      case round =>
        obtain ⟨j, hj, rfl, hB⟩ := hrel
        by_cases hlt : j < ls.length
        · obtain ⟨i, hi⟩ : ∃ i, is[j]? = some i := ⟨_, List.getElem?_eq_getElem (by omega)⟩
          have hx := rpl_at is j i hi
          have HRj := hid (HR.out.next hB)
          have HBj := hid hB
          have gl : g < wr.heap.size := Nat.lt_of_lt_of_le hgl hB.size
          have p0 := (hB.cell (p := ⟨g, j * 9 + 0, none⟩) hgl).trans (hat j _ hx 0 _ rfl)
          have p1 := (hB.cell (p := ⟨g, j * 9 + 1, none⟩) hgl).trans (hat j _ hx 1 _ rfl)
          have p2 := (hB.cell (p := ⟨g, j * 9 + 2, none⟩) hgl).trans (hat j _ hx 2 _ rfl)
          have p3 := (hB.cell (p := ⟨g, j * 9 + 3, none⟩) hgl).trans (hat j _ hx 3 _ rfl)
          have p4 := (hB.cell (p := ⟨g, j * 9 + 4, none⟩) hgl).trans (hat j _ hx 4 _ rfl)
          have p5 := (hB.cell (p := ⟨g, j * 9 + 5, none⟩) hgl).trans (hat j _ hx 5 _ rfl)
          have p6 := (hB.cell (p := ⟨g, j * 9 + 6, none⟩) hgl).trans (hat j _ hx 6 _ rfl)
          have p7 := (hB.cell (p := ⟨g, j * 9 + 7, none⟩) hgl).trans (hat j _ hx 7 _ rfl)
          have p8 := (hB.cell (p := ⟨g, j * 9 + 8, none⟩) hgl).trans (hat j _ hx 8 _ rfl)
          simp only [Nat.add_zero] at p0 p1 p2 p3 p4 p5 p6 p7 p8
          have hji : (j : Int) < ls.length := by omega
          have c1 := HRj.out.p.2.2 1 _ rfl
          have hpl2 := HRj.out.p.1
          clear hB hx c0
          obtain ⟨cq, hrun⟩ := rp_look (HRj.out.next ((Below.refl _ _).alloc (Nat.le_refl _) (.cells #[.string ⟨#[]⟩, .int .i64 i.op, .int .i64 i.rd, .int .i64 i.rs1, .int .i64 i.rs2, .int .i64 i.imm, .string ⟨#[]⟩, .int .i64 ((j : Int) + 1), .int .i64 0] 202)))
          have HB2 := hid (HBj.out.alloc HBj.out.size (.cells #[.string ⟨#[]⟩, .int .i64 i.op, .int .i64 i.rd, .int .i64 i.rs1, .int .i64 i.rs2, .int .i64 i.imm, .string ⟨#[]⟩, .int .i64 ((j : Int) + 1), .int .i64 0] 202))
          go_wp2_with fail
          go_roundw
          case rel => exact ⟨j + 1, by omega, by go_num, HB2.out⟩
          case measure => simp [intOf]; omega
        · have hjn : j = ls.length := by omega
          subst hjn
          have HRj := hid (HR.out.next hB)
          have y0 := HRj.out.p.2.2 0 _ rfl
          have y1 := HRj.out.p.2.2 1 _ rfl
          have r0 := HRj.out.r.2.2 0 _ rfl
          have r1 := HRj.out.r.2.2 1 _ rfl
          have rf := HRj.out.r.2.1
          have e0 := HRj.out.e.2.2 0 _ rfl
          have e1 := HRj.out.e.2.2 1 _ rfl
          have ef := HRj.out.e.2.1
          clear hB c0
          go_wp2_with fail
          have HOB : Hid (wr.ownsRow w.heap.size 202 9 (.slice (some ⟨g, 0, none⟩) ls.length cap) is.length ((rpl is).flatMap ptC) ∧ Below w.heap.size w wr) := hid ⟨by
            have := own_base (HRj.out.o) (base' := w.heap.size) (by omega)
            unfold rpc at this
            rw [List.take_of_length_le (by rw [rpl_len]; omega)] at this
            rw [hil]
            exact this, HRj.out.b⟩
          refine bodyPost_ret (v := .tuple #[.agg #[.slice (some ⟨g, 0, none⟩) ls.length cap, .map (some (w.heap.size + 2))], .agg #[.int .i64 0, .int .i64 0]]) (by simp [results, Tryz.results79, go_sem, r0, r1, e0, e1]) rfl ⟨_, _, rfl, ?_, ?_⟩
          · exact own_far (own_far (own_far (own_far HOB.out.1 _ _ _ (by omega)) _ _ _ (by omega)) _ _ _ (by omega)) _ _ _ (by omega)
          · exact (((HOB.out.2.setCell (by simp) _).setCell (by simp) _).setCell (by simp) _).setCell (by simp) _
end Go.Proofs.YtbmcofdodfcnnaaGreatDoor
