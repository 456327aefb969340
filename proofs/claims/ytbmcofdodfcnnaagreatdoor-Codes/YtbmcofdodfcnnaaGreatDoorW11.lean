import Derived.Test.YtbmcofdodfcnnaaGreatDoorW10
import Derived.Test.YtbmcofdodfcnnaaGreatDoorPD
namespace Go.Proofs.YtbmcofdodfcnnaaGreatDoor
open Go.RowKit

/-- the tokens L lie where v says -/
def ToksAt (w : World) (v : Value) (L : List Pn.Tok) : Prop :=
  ∃ ao cap, v = .slice ao L.length cap ∧ (L ≠ [] → ∃ g o, ao = some ⟨g, o, none⟩ ∧ g < w.heap.size ∧ ∀ k t, L[k]? = some t →
    w.cell? ⟨g, o + k * 4, none⟩ = some (.int .u8 t.kind) ∧ w.cell? ⟨g, o + k * 4 + 1, none⟩ = some (.string t.S) ∧ w.cell? ⟨g, o + k * 4 + 2, none⟩ = some (.int .i64 t.num) ∧ w.cell? ⟨g, o + k * 4 + 3, none⟩ = some (.bool t.blank))

def OpOut (o : Option (List Int × Int × ByteArray)) (w : World) (e : Ending) (w' : World) : Prop :=
  match o with
  | none => e = .returned (.tuple #[.slice none 0 0, .int .i64 0, .string ⟨#[]⟩, .bool false])
  | some (rs, n, nm) => ∃ v, e = .returned (.tuple #[v, .int .i64 n, .string nm, .bool true]) ∧ w'.ownsRow w.heap.size 3 1 v rs.length (rs.map (.int .i64))

def OpRel (L : List Pn.Tok) (F : ByteArray) (w : World) (regs n nm k : Value) (wr : World) : Prop :=
  ∃ (q : Nat) (rs : List Int) (nn : Int) (ns : ByteArray), q ≤ L.length ∧ rs.length ≤ q ∧ k = .int .i64 q ∧ n = .int .i64 nn ∧ nm = .string ns ∧ wr.ownsRow w.heap.size 3 1 regs rs.length (rs.map (.int .i64)) ∧
    Hid (Pn.opnd L F.data.toList [] 0 ⟨#[]⟩ = Pn.opnd (L.drop q) (F.data.toList.drop q) rs nn ns) ∧ Below w.heap.size w wr

theorem infoInt : (Tryz.prog.info? 3).map (fun i => (i.zero, i.size, i.bytes)) = some (some (.int .i64 0), 1, 8) := by kernel_rfl

theorem opRel_to {L : List Pn.Tok} {F : ByteArray} {w wr : World} {regs n nm : Value} {q : Nat} {rs rs' : List Int} {nn nn' : Int} {ns ns' : ByteArray} {t : Pn.Tok}
    (ht : L[q]? = some t) (hF : q < F.size) (hq : q < L.length) (hr : rs'.length ≤ q + 1)
    (hno : Pn.opnd L F.data.toList [] 0 ⟨#[]⟩ = Pn.opnd (L.drop q) (F.data.toList.drop q) rs nn ns)
    (hst : ∀ l F', Pn.opnd (t :: l) (Pn.B F q :: F') rs nn ns = Pn.opnd l F' rs' nn' ns')
    (hn : n = .int .i64 nn') (hm : nm = .string ns') (hown : wr.ownsRow w.heap.size 3 1 regs rs'.length (rs'.map (.int .i64))) (hB : Below w.heap.size w wr) :
    ∀ kv : Value, kv = .int .i64 ((q + 1 : Nat) : Int) → OpRel L F w regs n nm kv wr := by
  rintro _ rfl
  refine ⟨q + 1, rs', nn', ns', by omega, hr, rfl, hn, hm, hown, ?_, hB⟩
  show Pn.opnd L F.data.toList [] 0 ⟨#[]⟩ = _
  rw [hno, Pn.drop_cons F q hF, List.drop_eq_getElem_cons hq]
  have : L[q] = t := by rw [List.getElem?_eq_getElem hq] at ht; exact Option.some.inj ht
  rw [this, hst]
theorem opOut_no {L : List Pn.Tok} {F : ByteArray} {w wr : World} {q : Nat} {rs : List Int} {nn : Int} {ns : ByteArray} {t : Pn.Tok} {e : Ending}
    (ht : L[q]? = some t) (hF : q < F.size) (hq : q < L.length)
    (hno : Pn.opnd L F.data.toList [] 0 ⟨#[]⟩ = Pn.opnd (L.drop q) (F.data.toList.drop q) rs nn ns)
    (hst : ∀ l F', Pn.opnd (t :: l) (Pn.B F q :: F') rs nn ns = none) (he : e = .returned (.tuple #[.slice none 0 0, .int .i64 0, .string ⟨#[]⟩, .bool false])) : OpOut (Pn.opnd L F.data.toList [] 0 ⟨#[]⟩) w e wr := by
  rw [hno, Pn.drop_cons F q hF, List.drop_eq_getElem_cons hq]
  have : L[q] = t := by rw [List.getElem?_eq_getElem hq] at ht; exact Option.some.inj ht
  rw [this, hst]
  exact he

theorem own_below {w w' : World} {base : Nat} {e : TypeId} {size : Nat} {v : Value} {n : Nat} {xs : List Value} (h : w.ownsRow base e size v n xs) (hB : Below w.heap.size w w') : w'.ownsRow base e size v n xs :=
  h.kept (row := none) ⟨hB.os, hB.tape, hB.output, hB.size, fun k hk _ => hB.block k hk⟩ (by cases hv : v.ownBlock; exact .inl rfl; exact .inr (by simp))

theorem own_drewN {w : World} {base : Nat} {e : TypeId} {size : Nat} {v : Value} {n : Nat} {xs : List Value} (h : w.ownsRow base e size v n xs) (d : Nat) : (w.drewN d).ownsRow base e size v n xs := h
theorem opnd_end {L : List Pn.Tok} {F : ByteArray} {q : Nat} {rs : List Int} {nn : Int} {ns : ByteArray} (hno : Pn.opnd L F.data.toList [] 0 ⟨#[]⟩ = Pn.opnd (L.drop q) (F.data.toList.drop q) rs nn ns) (h1 : L.length ≤ q) (h2 : F.size ≤ q) :
    Pn.opnd L F.data.toList [] 0 ⟨#[]⟩ = some (rs, nn, ns) := by
  rw [hno, List.drop_eq_nil_of_le h1, List.drop_eq_nil_of_le (by simpa using h2), Pn.opnd_nil]

set_option maxRecDepth 100000 in
set_option maxHeartbeats 8000000 in
theorem operands_in (L : List Pn.Tok) (F : ByteArray) (g o cap : Nat) (w : World) (hl : L.length ≤ 2000) (hg : g < w.heap.size) (hLF : L.length = F.size)
    (hc : ∀ k t, L[k]? = some t → w.cell? ⟨g, o + k * 4, none⟩ = some (.int .u8 t.kind) ∧ w.cell? ⟨g, o + k * 4 + 1, none⟩ = some (.string t.S) ∧ w.cell? ⟨g, o + k * 4 + 2, none⟩ = some (.int .i64 t.num) ∧ w.cell? ⟨g, o + k * 4 + 3, none⟩ = some (.bool t.blank)) :
    Calls Tryz.prog 209 #[.slice (some ⟨g, o, none⟩) L.length cap, .string F] w fun e w' => OpOut (Pn.opnd L F.data.toList [] 0 ⟨#[]⟩) w e w' ∧ Below w.heap.size w w' := by
  obtain ⟨i0, hi, hz0, hz1, hz2⟩ := info_parts infoInt
  have HC := hide hc
  clear hc
  generalize hn : L.length = n at *
  have HL := hide hn
  have HF := hide hLF
  have hsz : (n : Int) ≤ 2000 := by omega
  have hFs : (F.size : Int) = n := by omega
  clear hn hLF
  go_enter Tryz.func209, Tryz.ntmps209
  go_wp2_with fail
  go_loopw [8, 9, 10, 11] (fun regs a nm k wr => OpRel L F w regs a nm k wr) (fun _ _ _ k _ => n - (intOf k).toNat)
  case atStart => exact ⟨0, [], 0, ⟨#[]⟩, by omega, by simp, rfl, rfl, rfl, World.ownsRow_nil _ _ _ _, by simp [Hid], Below.refl _ _⟩
  case round =>
    obtain ⟨q, rs, nn, ns, hq1, hrs, rfl, rfl, rfl, hown, hno, hB⟩ := hrel
    rw [unhide HL] at hq1
    have HO : Hid (wr.ownsRow w.heap.size 3 1 u8 rs.length (rs.map (.int .i64))) := hown
    have HB : Hid (Below w.heap.size w wr) := hB
    have hzr : w.heap.size ≤ wr.heap.size := hB.size
    clear hown
    have hBq := Pn.B_eq F
    by_cases hlt : q < n
    · have hlt2 : (q : Int) < n := by omega
      have hltF : q < F.size := by have := unhide HF; omega
      have hltL : q < L.length := by rw [unhide HL]; exact hlt
      obtain ⟨t, htt⟩ : ∃ t, L[q]? = some t := ⟨L[q], List.getElem?_eq_getElem hltL⟩
      obtain ⟨x0, x1, x2, x3⟩ := (unhide HC) q t htt
      have y0 := (hB.cell (p := ⟨g, o + q * 4, none⟩) hg).trans x0
      have y1 := (hB.cell (p := ⟨g, o + q * 4 + 1, none⟩) hg).trans x1
      have y2 := (hB.cell (p := ⟨g, o + q * 4 + 2, none⟩) hg).trans x2
      have y3 := (hB.cell (p := ⟨g, o + q * 4 + 3, none⟩) hg).trans x3
      have HT := hide htt
      clear x0 x1 x2 x3 hB htt
      by_cases f1 : (((Pn.B F q).toNat : Int) == 114) = true
      · -- a register
        have HF1 : Hid (Pn.B F q = 114) := Pn.f_is f1
        go_upto_region 13 with (go_at_call 241; refine (reg_is t.kind t.num t.S t.blank _).mono ?_; rintro e w3 ⟨rfl, hB3⟩; (have HB3 : Hid (Below w.heap.size w w3) := (HB.out.alloc HB.out.size _).trans (hB3.mono (by simp; omega))); (have HO3 : Hid (w3.ownsRow w.heap.size 3 1 u8 rs.length (rs.map (.int .i64))) := own_below (HO.out.alloc _) hB3); clear hB3)
        have hrb := Pn.regV_bd t.kind t.S
        by_cases hneg : Pn.regV t.kind t.S < 0
        · go_wp2_with fail
          exact bodyPost_ret (v := .tuple #[.slice none 0 0, .int .i64 0, .string ⟨#[]⟩, .bool false]) (by simp [results, Tryz.results209, go_sem]) rfl ⟨opOut_no (unhide HT) hltF hltL hno.out (fun l F' => Pn.opnd_r_no HF1.out t l F' rs nn ns hneg) rfl, HB3.out⟩
        · go_wp2_with (first
            | (at_builtin; refine wpList_append_own _ rfl _ _ 49 rfl w.heap.size 3 i0 (.int .i64 0) 1 8 Tryz.underlying49 hi hz0 hz1 hz2 rfl (by decide) _ rs.length _ rfl (HO3.out.alloc _) ⟨w3.heap.size, 0, none⟩ 1 1 [_] rfl rfl (cell_one_new _ _ _) ?h1 ?h63 ?hby ?hbase ?_
               case h1 => intro x hx; simp at hx; subst hx; rfl
               case h63 => unfold maxLen; omega
               case hby => omega
               case hbase => have := HB3.out.size; simp; omega
               intro v' w4 hown' hgrow3 hnil3
               have X : Hid (w4.ownsRow w.heap.size 3 1 v' (rs.length + 1) _ ∧ Below w.heap.size w w4) := ⟨hown', Below.grown (HB3.out.alloc HB3.out.size _) hgrow3 (by have := HB3.out.size; simp; omega) (fun q hq => (HO3.out.lt q hq).1)⟩
               clear hown' hgrow3 hnil3))
          go_roundw
          case rel => first | exact opRel_to (rs' := rs ++ [Pn.regV t.kind t.S]) (unhide HT) hltF hltL (by simp; omega) hno.out (fun l F' => Pn.opnd_r HF1.out t l F' rs nn ns hneg) rfl rfl (by simpa using X.out.1) X.out.2 _ (by go_num) | ((repeat apply Exists.intro); refine ⟨?_, rfl⟩; exact opRel_to (rs' := rs ++ [Pn.regV t.kind t.S]) (unhide HT) hltF hltL (by simp; omega) hno.out (fun l F' => Pn.opnd_r HF1.out t l F' rs nn ns hneg) rfl rfl (by simpa using X.out.1) X.out.2 _ (by go_num))
          case measure => simp [intOf]; omega
      · have f1' : (((Pn.B F q).toNat : Int) == 114) = false := by simpa using f1
        have HF1 : Hid (Pn.B F q ≠ 114) := Pn.u8_ne' (n := 114) (by omega) f1'
        clear f1
        have HBa : Hid (Below w.heap.size w (wr.alloc (.cells #[.int .u8 t.kind, .string t.S, .int .i64 t.num, .bool t.blank] 268))) := HB.out.alloc HB.out.size _
        have HOa : Hid ((wr.alloc (.cells #[.int .u8 t.kind, .string t.S, .int .i64 t.num, .bool t.blank] 268)).ownsRow w.heap.size 3 1 u8 rs.length (rs.map (.int .i64))) := HO.out.alloc _
        by_cases f2 : (((Pn.B F q).toNat : Int) == 105) = true
        · have HF2 : Hid (Pn.B F q = 105) := Pn.f_is f2
          have f3 : (((Pn.B F q).toNat : Int) == 116) = false := by rw [HF2.out]; rfl
          by_cases k1 : (t.kind == 105) = true
          · go_wp2_with fail
            go_roundw
            case rel => first | exact opRel_to (unhide HT) hltF hltL (by omega) hno.out (fun l F' => Pn.opnd_i HF1.out (.inl HF2.out) t l F' rs nn ns (by simpa using k1)) rfl rfl HOa.out HBa.out _ (by go_num) | ((repeat apply Exists.intro); refine ⟨?_, rfl⟩; exact opRel_to (unhide HT) hltF hltL (by omega) hno.out (fun l F' => Pn.opnd_i HF1.out (.inl HF2.out) t l F' rs nn ns (by simpa using k1)) rfl rfl HOa.out HBa.out _ (by go_num))
            case measure => simp [intOf]; omega
          · have k1' : (t.kind == 105) = false := by simpa using k1
            have k2' : (((Pn.B F q).toNat : Int) == t.kind) = false := by rw [HF2.out]; simp at k1 ⊢; omega
            clear k1
            go_wp2_with fail
            go_quiet (fail)
            go_wp2_with fail
            exact bodyPost_ret (v := .tuple #[.slice none 0 0, .int .i64 0, .string ⟨#[]⟩, .bool false]) (by simp [results, Tryz.results209, go_sem]) rfl ⟨opOut_no (unhide HT) hltF hltL hno.out (fun l F' => Pn.opnd_no HF1.out t l F' rs nn ns (fun h => by simp [h.2] at k1') (fun h => by have := h.1; rw [HF2.out] at this; exact absurd this (by decide)) (fun h => h.2 HF2.out)) rfl, below_drewN HBa.out _⟩
        · have f2' : (((Pn.B F q).toNat : Int) == 105) = false := by simpa using f2
          have HF2 : Hid (Pn.B F q ≠ 105) := Pn.u8_ne' (n := 105) (by omega) f2'
          have f2n : (((Pn.B F q).toNat : Int) != 105) = true := by simpa using f2'
          clear f2
          by_cases f3 : (((Pn.B F q).toNat : Int) == 116) = true
          · have HF3 : Hid (Pn.B F q = 116) := Pn.f_is f3
            by_cases k1 : (t.kind == 105) = true
            · go_wp2_with fail
              go_roundw
              case rel => first | exact opRel_to (unhide HT) hltF hltL (by omega) hno.out (fun l F' => Pn.opnd_i HF1.out (.inr HF3.out) t l F' rs nn ns (by simpa using k1)) rfl rfl (HOa.out) (HBa.out) _ (by go_num) | ((repeat apply Exists.intro); refine ⟨?_, rfl⟩; exact opRel_to (unhide HT) hltF hltL (by omega) hno.out (fun l F' => Pn.opnd_i HF1.out (.inr HF3.out) t l F' rs nn ns (by simpa using k1)) rfl rfl (HOa.out) (HBa.out) _ (by go_num))
              case measure => simp [intOf]; omega
            · have k1' : (t.kind == 105) = false := by simpa using k1
              clear k1
              by_cases k2 : (t.kind == 119) = true
              · by_cases k3 : (t.S.size : Int) ≤ 8
                · go_wp2_with fail
                  go_roundw
                  case rel => first | exact opRel_to (unhide HT) hltF hltL (by omega) hno.out (fun l F' => Pn.opnd_t HF3.out t l F' rs nn ns (by simpa using k2) (by omega)) rfl rfl (HOa.out) (HBa.out) _ (by go_num) | ((repeat apply Exists.intro); refine ⟨?_, rfl⟩; exact opRel_to (unhide HT) hltF hltL (by omega) hno.out (fun l F' => Pn.opnd_t HF3.out t l F' rs nn ns (by simpa using k2) (by omega)) rfl rfl (HOa.out) (HBa.out) _ (by go_num))
                  case measure => simp [intOf]; omega
                · have k3' : decide ((t.S.size : Int) ≤ 8) = false := by simpa using k3
                  have k4 : (((Pn.B F q).toNat : Int) == t.kind) = false := by rw [HF3.out]; simp at k2 ⊢; omega
                  go_wp2_with fail
                  go_quiet (fail)
                  go_wp2_with fail
                  exact bodyPost_ret (v := .tuple #[.slice none 0 0, .int .i64 0, .string ⟨#[]⟩, .bool false]) (by simp [results, Tryz.results209, go_sem]) rfl ⟨opOut_no (unhide HT) hltF hltL hno.out (fun l F' => Pn.opnd_no HF1.out t l F' rs nn ns (fun h => by simp [h.2] at k1') (fun h => by have := h.2.2; omega) (fun h => by simp [h.1] at k4)) rfl, below_drewN HBa.out _⟩
              · have k2' : (t.kind == 119) = false := by simpa using k2
                clear k2
                by_cases k4 : (((Pn.B F q).toNat : Int) == t.kind) = true
                · go_wp2_with fail
                  go_quiet (fail)
                  go_wp2_with fail
                  go_roundw
                  case rel => first | exact opRel_to (unhide HT) hltF hltL (by omega) hno.out (fun l F' => Pn.opnd_s HF1.out t l F' rs nn ns (fun h => by simp [h.2] at k1') (fun h => by simp [h.2.1] at k2') (by simpa using k4) HF2.out) rfl rfl (own_drewN HOa.out _) (below_drewN HBa.out _) _ (by go_num) | ((repeat apply Exists.intro); refine ⟨?_, rfl⟩; exact opRel_to (unhide HT) hltF hltL (by omega) hno.out (fun l F' => Pn.opnd_s HF1.out t l F' rs nn ns (fun h => by simp [h.2] at k1') (fun h => by simp [h.2.1] at k2') (by simpa using k4) HF2.out) rfl rfl (own_drewN HOa.out _) (below_drewN HBa.out _) _ (by go_num))
                  case measure => simp [intOf]; omega
                · have k4' : (((Pn.B F q).toNat : Int) == t.kind) = false := by simpa using k4
                  clear k4
                  go_wp2_with fail
                  go_quiet (fail)
                  go_wp2_with fail
                  exact bodyPost_ret (v := .tuple #[.slice none 0 0, .int .i64 0, .string ⟨#[]⟩, .bool false]) (by simp [results, Tryz.results209, go_sem]) rfl ⟨opOut_no (unhide HT) hltF hltL hno.out (fun l F' => Pn.opnd_no HF1.out t l F' rs nn ns (fun h => by simp [h.2] at k1') (fun h => by simp [h.2.1] at k2') (fun h => by simp [h.1] at k4')) rfl, below_drewN HBa.out _⟩
          · have f3' : (((Pn.B F q).toNat : Int) == 116) = false := by simpa using f3
            have HF3 : Hid (Pn.B F q ≠ 116) := Pn.u8_ne' (n := 116) (by omega) f3'
            clear f3
            by_cases k4 : (((Pn.B F q).toNat : Int) == t.kind) = true
            · go_wp2_with fail
              go_quiet (fail)
              go_wp2_with fail
              go_roundw
              case rel => first | exact opRel_to (unhide HT) hltF hltL (by omega) hno.out (fun l F' => Pn.opnd_s HF1.out t l F' rs nn ns (fun h => h.1.elim HF2.out HF3.out) (fun h => HF3.out h.1) (by simpa using k4) HF2.out) rfl rfl (own_drewN HOa.out _) (below_drewN HBa.out _) _ (by go_num) | ((repeat apply Exists.intro); refine ⟨?_, rfl⟩; exact opRel_to (unhide HT) hltF hltL (by omega) hno.out (fun l F' => Pn.opnd_s HF1.out t l F' rs nn ns (fun h => h.1.elim HF2.out HF3.out) (fun h => HF3.out h.1) (by simpa using k4) HF2.out) rfl rfl (own_drewN HOa.out _) (below_drewN HBa.out _) _ (by go_num))
              case measure => simp [intOf]; omega
            · have k4' : (((Pn.B F q).toNat : Int) == t.kind) = false := by simpa using k4
              clear k4
              go_wp2_with fail
              go_quiet (fail)
              go_wp2_with fail
              exact bodyPost_ret (v := .tuple #[.slice none 0 0, .int .i64 0, .string ⟨#[]⟩, .bool false]) (by simp [results, Tryz.results209, go_sem]) rfl ⟨opOut_no (unhide HT) hltF hltL hno.out (fun l F' => Pn.opnd_no HF1.out t l F' rs nn ns (fun h => h.1.elim HF2.out HF3.out) (fun h => HF3.out h.1) (fun h => by simp [h.1] at k4')) rfl, below_drewN HBa.out _⟩
    · have hqn : q = n := by omega
      have HE := hide (opnd_end hno.out (by rw [unhide HL]; omega) (by have := unhide HF; omega))
      go_wp2_with fail
      refine bodyPost_ret (v := .tuple #[u8, .int .i64 nn, .string ns, .bool true]) (by simp [results, Tryz.results209, go_sem]) rfl ⟨?_, HB.out⟩
      rw [unhide HE]
      exact ⟨u8, rfl, HO.out⟩

theorem operands_len (ao : Option Addr) (n cap : Nat) (F : ByteArray) (w : World) (h : n ≠ F.size) :
    Calls Tryz.prog 209 #[.slice ao n cap, .string F] w fun e w' => e = .returned (.tuple #[.slice none 0 0, .int .i64 0, .string ⟨#[]⟩, .bool false]) ∧ w' = w := by
  have h' : ((n : Int) != F.size) = true := by simp; omega
  clear h
  go_enter Tryz.func209, Tryz.ntmps209
  go_wp2_with fail
  exact bodyPost_ret (v := .tuple #[.slice none 0 0, .int .i64 0, .string ⟨#[]⟩, .bool false]) (by simp [results, Tryz.results209, go_sem]) rfl ⟨rfl, rfl⟩

theorem operands_nil (ao : Option Addr) (cap : Nat) (F : ByteArray) (w : World) (h : F.size = 0) :
    Calls Tryz.prog 209 #[.slice ao 0 cap, .string F] w fun e w' => e = .returned (.tuple #[.slice none 0 0, .int .i64 0, .string ⟨#[]⟩, .bool true]) ∧ w' = w := by
  go_enter Tryz.func209, Tryz.ntmps209
  go_wp2_with fail
  go_loop [8, 9, 10, 11] (fun a b c k => a = .slice none 0 0 ∧ b = .int .i64 0 ∧ c = .string ⟨#[]⟩ ∧ k = .int .i64 0) (fun _ _ _ _ => 0)
  case atStart => exact ⟨rfl, rfl, rfl, rfl⟩
  case round =>
    obtain ⟨rfl, rfl, rfl, rfl⟩ := hrel
    go_wp2_with fail
    exact bodyPost_ret (v := .tuple #[.slice none 0 0, .int .i64 0, .string ⟨#[]⟩, .bool true]) (by simp [results, Tryz.results209, go_sem]) rfl ⟨rfl, rfl⟩

theorem operands_is (L : List Pn.Tok) (F : ByteArray) (v : Value) (w : World) (hl : L.length ≤ 2000) (hv : ToksAt w v L) :
    Calls Tryz.prog 209 #[v, .string F] w fun e w' => OpOut (Pn.opnd L F.data.toList [] 0 ⟨#[]⟩) w e w' ∧ Below w.heap.size w w' := by
  obtain ⟨ao, cap, rfl, hc⟩ := hv
  by_cases hLF : L.length = F.size
  · by_cases hL : L = []
    · subst hL
      have hz : F.size = 0 := by simpa using hLF.symm
      refine (operands_nil ao cap F w hz).mono ?_
      rintro e w' ⟨rfl, rfl⟩
      refine ⟨?_, Below.refl _ _⟩
      have : F.data.toList = [] := List.eq_nil_of_length_eq_zero (by simpa using hz)
      rw [this, Pn.opnd_nil]
      exact ⟨_, rfl, World.ownsRow_nil _ _ _ _⟩
    · obtain ⟨g, o, rfl, hg, hcc⟩ := hc hL
      exact operands_in L F g o cap w hl hg hLF hcc
  · refine (operands_len ao _ cap F w hLF).mono ?_
    rintro e w' ⟨rfl, rfl⟩
    refine ⟨?_, Below.refl _ _⟩
    rw [Pn.opnd_len _ _ _ _ _ (by simpa using hLF)]
    rfl

end Go.Proofs.YtbmcofdodfcnnaaGreatDoor
