import Derived.Test.YtbmcofdodfcnnaaGreatDoorGQR
import Derived.Test.YtbmcofdodfcnnaaGreatDoorGPR
import Derived.Test.YtbmcofdodfcnnaaGreatDoorGSC
namespace Go.Proofs.YtbmcofdodfcnnaaGreatDoor
open Go.RowKit
structure Run2 (xs ys : List IX) (bx b_y : Nat) (k : Nat) (mx my regs : List Int) (w W : World) : Prop where
  sim : Sim xs ys k mx my regs
  x : IsM 92 bx mx regs (placeX xs k) W
  y : IsM 92 b_y my regs (placeX ys k) W
  b : Below w.heap.size w W
theorem Sim.regs0 {xs ys : List IX} {mx my regs regs' : List Int} (h : Sim xs ys 0 mx my regs) (hl : regs'.length = 32) (hr : ∀ r, inB (regs'.getD r 0)) : Sim xs ys 0 mx my regs' := ⟨h.cx, h.cy, h.up, h.lx, h.ly, hl, hr, h.lt, .inl rfl⟩
theorem str_eq {a b : ByteArray} (h : a.data.toList = b.data.toList) : a = b := by
  rw [← ba_eta a, ← ba_eta b, h]
theorem zreg_get (r : Nat) : zreg.getD r 0 = 0 := by
  unfold zreg
  rw [List.getD_eq_getElem?_getD, List.getElem?_replicate]
  split <;> rfl
set_option maxRecDepth 20000 in
set_option maxHeartbeats 4000000 in
theorem samerun_walk (a0 : Option Addr) (len cap : Nat) (s0 : Option Addr) (slen scap : Nat) (most : Int) (w : World) (hE : Env w) (hm : inB most) (_hsl : slen < 1000000000000000)
    (hs : ∀ i, i < slen → ∃ (B o : Nat) (v : Int), s0 = some ⟨B, o, none⟩ ∧ B < w.heap.size ∧ inB v ∧ w.cell? ⟨B, o + i, none⟩ = some (.int .i64 v))
    (hP : ∀ w1, Below w.heap.size w w1 → Calls Tryz.prog 22 #[.slice a0 len cap] w1 fun e w2 => ∃ s : ByteArray, e = .returned (.string s) ∧ (∃ A B : ByteArray, asmA s false = (A.data.toList, 0, 0) ∧ asmA s true = (B.data.toList, 0, 0) ∧ Two A B) ∧ Below w1.heap.size w1 w2) :
    Calls Tryz.prog 9 #[.slice a0 len cap, .slice s0 slen scap, .int .i64 most] w fun e w' => e = .returned (.bool true) ∧ Below w.heap.size w w' := by
  have HE := hid hE
  have HPR := hid hP
  have HSD := hid hs
  clear hE hP hs
  go_enter Tryz.func9, Tryz.ntmps9
  go_wp2_with fail
  refine (awake_is _ HE.out).mono ?_
  rintro e w1 ⟨rfl, hB1⟩
  have HB1 := hid hB1
  clear hB1
  go_wp2_with fail
  refine (HPR.out w1 HB1.out).mono ?_
  rintro e w2 ⟨s, rfl, ⟨A, B, hA, hB, hT⟩, hB2⟩
  have HB2 := hid (HB1.out.trans (hB2.mono HB1.out.size))
  have HF := hid (fun w' h => passemble_any s false w' h)
  have HT' := hid (fun w' h => passemble_any s true w' h)
  rw [hA] at HF
  rw [hB] at HT'
  simp only [ba_eta] at HF HT'
  have HTW := hid hT
  have hab := hT.ab
  have hsz := hT.sz
  clear hB2 HB1 HPR hA hB hT
  go_wp2_with fail
  refine (HF.out w2 (HE.out.below HB2.out HE.out.1)).mono ?_
  rintro e w3 ⟨rfl, hB3⟩
  have HB3 := hid (HB2.out.trans (hB3.mono HB2.out.size))
  clear hB3 HB2 HF
  go_wp2_with fail
  have HFA := hid (CellsAt.new w3 [.int .i64 0, .int .i64 0] 39)
  have HB4 : Hid (Below w.heap.size w (w3.alloc (.cells #[.int .i64 0, .int .i64 0] 39))) := hid (HB3.out.alloc HB3.out.size _)
  generalize w3.alloc _ = W4 at *
  refine (HT'.out W4 (HE.out.below HB4.out HE.out.1)).mono ?_
  rintro e w5 ⟨rfl, hB5⟩
  have HB5 := hid (HB4.out.trans (hB5.mono HB4.out.size))
  have HF5 := hid (HFA.out.next hB5)
  have f0 := HF5.out.2.2 0 _ rfl
  have f1 := HF5.out.2.2 1 _ rfl
  have fl := HF5.out.1
  have hne1 : ¬ w3.heap.size = w5.heap.size := by omega
  clear hB5 HB4 HFA HT' HB3
  go_wp2_with fail
  have HB6 : Hid (Below w.heap.size w (w5.alloc (.cells #[.int .i64 0, .int .i64 0] 39))) := hid (HB5.out.alloc HB5.out.size _)
  clear f0 f1 fl hne1 HB5 HF5
  generalize w5.alloc _ = W6 at *
  refine (pnew_is A W6 (by omega)).mono ?_
  rintro e w7 ⟨bx, rfl, hbx, hMx, hB7⟩
  have HB7 := hid (HB6.out.trans (hB7.mono HB6.out.size))
  have hbw := HB6.out.size
  have HMX := hid hMx
  clear hB7 hMx
  go_wp2_with fail
  refine (pnew_is B w7 (by omega)).mono ?_
  rintro e w8 ⟨b_y, rfl, hby, hMy, hB8⟩
  have HB8 := hid (HB7.out.trans (hB8.mono HB7.out.size))
  have hlx := HMX.out.lt
  have HMX8 := hid (HMX.out.next hB8)
  have HMY := hid hMy
  have hxy : bx ≠ b_y := by omega
  have hwx : w.heap.size ≤ bx := by omega
  have hwy : w.heap.size ≤ b_y := by have := HB7.out.size; omega
  have habi : ¬ (A.size : Int) < B.size := by omega
  have hszi : ¬ (2048 : Int) < A.size := by omega
  have hd1 : decide (A.size < B.size) = false := decide_eq_false (by omega)
  have hd2 : decide ((2048 : Int) < A.size) = false := decide_eq_false (by omega)
  clear hB8 hMy HMX HB7 HB6 hbw hbx hby hlx
  go_wp2_with fail
  obtain ⟨xs, ys, hAx, hBy, hC, h0⟩ := HTW.out.cod
  have HC := hid hC
  have HR0 : Hid (Run2 xs ys bx b_y 0 (mput zmem 0 A.data.toList) (mput zmem 0 B.data.toList) zreg w w8) := hid ⟨sim_zero hAx hBy hC h0 (by simp [zreg]) (fun r => by rw [zreg_get]; unfold inB; omega), by rw [place_zero]; exact HMX8.out, by rw [place_zero]; exact HMY.out, HB8.out⟩
  generalize mput zmem 0 A.data.toList = MX at *
  generalize mput zmem 0 B.data.toList = MY at *
  clear hAx hBy hC h0 HTW HMX8 HMY HB8 habi hszi hab hsz hd1 hd2
  go_loopw [17] (fun i wr => ∃ (j : Nat) (regs : List Int), i = .int .i64 j ∧ j ≤ 11 ∧ Hid (Run2 xs ys bx b_y 0 MX MY regs w wr)) (fun i _ => 11 - (intOf i).toNat)
  case atStart => exact ⟨0, zreg, rfl, by omega, HR0⟩
  case round =>
    clear HR0
    obtain ⟨j, regs, rfl, hj, HR⟩ := hrel
    by_cases h1 : j < slen
    · by_cases h2 : j < 11
      · obtain ⟨Bs, os, v, rfl, hBs, hv, hcell⟩ := HSD.out j h1
        have cs : wr.cell? ⟨Bs, os + j, none⟩ = some (.int .i64 v) := (HR.out.b.cell (p := ⟨Bs, os + j, none⟩) hBs).trans hcell
        have h1i : (j : Int) < slen := by omega
        have h2i : (j : Int) < 11 := by omega
        have e5 : (((5 + j : Nat)) : Int) = 5 + (j : Int) := by omega
        have HSX := hid (fun w' (h : IsM 92 bx MX regs (placeX xs 0 : Int) w') => pset_in bx (5 + j) v w' h (by omega))
        have HSY := hid (fun w' (h : IsM 92 b_y MY regs (placeX ys 0 : Int) w') => pset_in b_y (5 + j) v w' h (by omega))
        rw [e5] at HSX HSY
        have wk : IntKind.i64.wrap (5 + (j : Int)) = 5 + (j : Int) := IntWalk.i64_in _ (by omega)
        have wk2 : IntKind.i64.wrap ((j : Int) + 1) = (j : Int) + 1 := IntWalk.i64_in _ (by omega)
        clear hcell HSD
        go_wp2_with fail
        refine (HSX.out wr HR.out.x).mono ?_
        rintro e w9 ⟨rfl, hMx, hKx⟩
        have cs9 : w9.cell? ⟨Bs, os + j, none⟩ = some (.int .i64 v) := by
          have hb := hKx.block Bs (Nat.lt_of_lt_of_le hBs HR.out.b.size) (by omega)
          unfold World.cell? at cs ⊢
          rw [show ({ block := Bs, off := os + j } : Addr).block = Bs from rfl] at cs ⊢
          rw [hb]
          exact cs
        have hMy := HR.out.y.other hKx (fun e => hxy e.symm)
        have HB9 := hid (hKx.below HR.out.b hwx (Nat.le_refl _))
        have HMX := hid hMx
        have HMY := hid hMy
        clear cs hMx hMy hKx HSX
        go_wp2_with fail
        refine (HSY.out w9 HMY.out).mono ?_
        rintro e w10 ⟨rfl, hMy, hKy⟩
        have hMx := HMX.out.other hKy hxy
        have HB10 := hid (hKy.below HB9.out hwy (Nat.le_refl _))
        have HR2 : Hid (Run2 xs ys bx b_y 0 MX MY (rset regs (5 + j) v) w w10) := hid ⟨HR.out.sim.regs0 (by rw [rset_len, HR.out.sim.rl]) (fun r => by rw [rset_get]; split; exact hv; exact HR.out.sim.rg r), hMx, hMy, HB10.out⟩
        clear hMx hMy hKy HSY HMX HMY HB9 HB10 HR cs9
        go_wp2_with fail
        go_roundw
        case rel => exact ⟨j + 1, _, by go_num, by omega, HR2⟩
        case measure => simp [intOf]; omega
      · have h1i : (j : Int) < slen := by omega
        have h2i : ¬ (j : Int) < 11 := by omega
        clear HSD
        go_wp2_with fail
        refine (pick_any most 300 _ (by omega) (by omega) hm).mono ?_
        rintro e w9 ⟨⟨n, rfl, hn⟩, rfl⟩
        go_wp2_with fail
        go_loopw [19] (fun v wr => ∃ (q k : Nat) (mx my regs : List Int), v = .int .i64 q ∧ q ≤ n ∧ Hid (Run2 xs ys bx b_y k mx my regs w wr)) (fun v _ => n - (intOf v).toNat)
        case atStart => exact ⟨0, 0, MX, MY, regs, rfl, by omega, HR⟩
        case round =>
          clear HR
          obtain ⟨q, k, mx, my, regs, rfl, hq, HR⟩ := hrel
          by_cases hlt : q < n
          · have hlti : (q : Int) < n := by omega
            have wq : IntKind.i64.wrap ((q : Int) + 1) = (q : Int) + 1 := IntWalk.i64_in _ (by omega)
            rcases sim_step HC.out HR.out.sim with ⟨px, py, hX, hY⟩ | ⟨k', mx', my', regs', hS, hX, hY⟩
            · have HX := hid (hX bx _ wr HR.out.x)
              have HY := hid (fun W h => hY b_y 92 W h)
              clear hX hY
              go_wp2_with fail
              refine HX.out.mono ?_
              rintro e w10 ⟨rfl, hMx, hKx⟩
              unfold evV at HY ⊢
              have hMy := HR.out.y.other hKx (fun e => hxy e.symm)
              have hBx := hKx.below HR.out.b hwx (Nat.le_refl _)
              have HMX := hid (hMx.alloc (.cells #[.int .i64 5, .int .i64 px] 56))
              have HMY := hid (hMy.alloc (.cells #[.int .i64 5, .int .i64 px] 56))
              have HMYL := hid hMy.lt
              have HBW := hid (hBx.alloc hBx.size (.cells #[.int .i64 5, .int .i64 px] 56))
              have HEV := hid (CellsAt.new w10 [.int .i64 5, .int .i64 px] 56)
              clear hMx hMy hKx hBx HX
              go_wp2_with fail
              generalize w10.alloc _ = W11 at *
              refine (HY.out W11 HMY.out).mono ?_
              rintro e w12 ⟨rfl, hMy, hKy⟩
              have hMx := HMX.out.other hKy hxy
              have hne : w10.heap.size ≠ b_y := fun e => by have h1 := HMYL.out; omega
              have HE2 := hid (HEV.out.kept hKy hne)
              have hBy := hKy.below HBW.out hwy (Nat.le_refl _)
              have f0 := HE2.out.2.2 0 _ rfl
              have fl := HE2.out.1
              have hn1 : ¬ w10.heap.size = w12.heap.size := by omega
              have hn2 : ¬ w12.heap.size = w10.heap.size := by omega
              have HMX := hid (hMx.alloc (.cells #[.int .i64 5, .int .i64 py] 56))
              have HMY := hid (hMy.alloc (.cells #[.int .i64 5, .int .i64 py] 56))
              have HBW := hid (hBy.alloc hBy.size (.cells #[.int .i64 5, .int .i64 py] 56))
              clear hMx hMy hKy hBy HY HEV HE2 hne HMYL
              have HSm := hid HR.out.sim
              clear HR
              go_wp2_with fail
              generalize w12.alloc _ = W13 at *
              refine (state_is bx _ HMX.out HSm.out.rg (HE.out.below HBW.out HE.out.1)).mono ?_
              rintro e wa ⟨s1, rfl, hs1, hBa⟩
              have HMY := hid (HMY.out.next hBa)
              have HBW := hid (HBW.out.trans (hBa.mono HBW.out.size))
              have HS1 := hid hs1
              clear hBa hs1 HMX
              go_wp2_with fail
              refine (state_is b_y _ HMY.out HSm.out.rg (HE.out.below HBW.out HE.out.1)).mono ?_
              rintro e wb ⟨s2, rfl, hs2, hBb⟩
              have HBW := hid (HBW.out.trans (hBb.mono HBW.out.size))
              have hss : s1 = s2 := str_eq (by rw [HS1.out, hs2, HSm.out.text])
              subst hss
              clear hBb hs2 HS1 HMY
              go_wp2_with fail
              go_ret
              exact ⟨rfl, HBW.out⟩
            · have HX := hid (hX bx _ wr HR.out.x)
              have HY := hid (fun W h => hY b_y 92 W h)
              clear hX hY
              go_wp2_with fail
              refine HX.out.mono ?_
              rintro e w10 ⟨rfl, hMx, hKx⟩
              unfold evV at HY ⊢
              have hMy := HR.out.y.other hKx (fun e => hxy e.symm)
              have hBx := hKx.below HR.out.b hwx (Nat.le_refl _)
              have HMX := hid (hMx.alloc (.cells #[.int .i64 0, .int .i64 0] 56))
              have HMY := hid (hMy.alloc (.cells #[.int .i64 0, .int .i64 0] 56))
              have HMYL := hid hMy.lt
              have HBW := hid (hBx.alloc hBx.size (.cells #[.int .i64 0, .int .i64 0] 56))
              have HEV := hid (CellsAt.new w10 [.int .i64 0, .int .i64 0] 56)
              clear hMx hMy hKx hBx HX
              go_wp2_with fail
              generalize w10.alloc _ = W11 at *
              refine (HY.out W11 HMY.out).mono ?_
              rintro e w12 ⟨rfl, hMy, hKy⟩
              have hMx := HMX.out.other hKy hxy
              have hne : w10.heap.size ≠ b_y := fun e => by have h1 := HMYL.out; omega
              have HE2 := hid (HEV.out.kept hKy hne)
              have hBy := hKy.below HBW.out hwy (Nat.le_refl _)
              have f0 := HE2.out.2.2 0 _ rfl
              have fl := HE2.out.1
              have hn1 : ¬ w10.heap.size = w12.heap.size := by omega
              have hn2 : ¬ w12.heap.size = w10.heap.size := by omega
              have HMX := hid (hMx.alloc (.cells #[.int .i64 0, .int .i64 0] 56))
              have HMY := hid (hMy.alloc (.cells #[.int .i64 0, .int .i64 0] 56))
              have HBW := hid (hBy.alloc hBy.size (.cells #[.int .i64 0, .int .i64 0] 56))
              clear hMx hMy hKy hBy HY HEV HE2 hne HMYL
              have HSm := hid hS
              clear HR hS
              go_wp2_with fail
              refine ⟨⟨q + 1, k', mx', my', regs', by go_num, by omega, hid ⟨HSm.out, HMX.out, HMY.out, HBW.out⟩⟩, ?_⟩
              simp [intOf]
              omega
          · have hlti : ¬ (q : Int) < n := by omega
            have HMX := hid HR.out.x
            have HMY := hid HR.out.y
            have HSm := hid HR.out.sim
            have HBW := hid HR.out.b
            clear HR
            go_wp2_with fail
            refine (state_is bx _ HMX.out HSm.out.rg (HE.out.below HBW.out HE.out.1)).mono ?_
            rintro e wa ⟨s1, rfl, hs1, hBa⟩
            have HMY := hid (HMY.out.next hBa)
            have HBW := hid (HBW.out.trans (hBa.mono HBW.out.size))
            have HS1 := hid hs1
            clear hBa hs1 HMX
            go_wp2_with fail
            refine (state_is b_y _ HMY.out HSm.out.rg (HE.out.below HBW.out HE.out.1)).mono ?_
            rintro e wb ⟨s2, rfl, hs2, hBb⟩
            have HBW := hid (HBW.out.trans (hBb.mono HBW.out.size))
            have hss : s1 = s2 := str_eq (by rw [HS1.out, hs2, HSm.out.text])
            subst hss
            clear hBb hs2 HS1 HMY
            go_wp2_with fail
            go_ret
            exact ⟨rfl, HBW.out⟩
    · have h1i : ¬ (j : Int) < slen := by omega
      clear HSD
      go_wp2_with fail
      refine (pick_any most 300 _ (by omega) (by omega) hm).mono ?_
      rintro e w9 ⟨⟨n, rfl, hn⟩, rfl⟩
      go_wp2_with fail
      go_loopw [19] (fun v wr => ∃ (q k : Nat) (mx my regs : List Int), v = .int .i64 q ∧ q ≤ n ∧ Hid (Run2 xs ys bx b_y k mx my regs w wr)) (fun v _ => n - (intOf v).toNat)
      case atStart => exact ⟨0, 0, MX, MY, regs, rfl, by omega, HR⟩
      case round =>
        clear HR
        obtain ⟨q, k, mx, my, regs, rfl, hq, HR⟩ := hrel
        by_cases hlt : q < n
        · have hlti : (q : Int) < n := by omega
          have wq : IntKind.i64.wrap ((q : Int) + 1) = (q : Int) + 1 := IntWalk.i64_in _ (by omega)
          rcases sim_step HC.out HR.out.sim with ⟨px, py, hX, hY⟩ | ⟨k', mx', my', regs', hS, hX, hY⟩
          · have HX := hid (hX bx _ wr HR.out.x)
            have HY := hid (fun W h => hY b_y 92 W h)
            clear hX hY
            go_wp2_with fail
            refine HX.out.mono ?_
            rintro e w10 ⟨rfl, hMx, hKx⟩
            unfold evV at HY ⊢
            have hMy := HR.out.y.other hKx (fun e => hxy e.symm)
            have hBx := hKx.below HR.out.b hwx (Nat.le_refl _)
            have HMX := hid (hMx.alloc (.cells #[.int .i64 5, .int .i64 px] 56))
            have HMY := hid (hMy.alloc (.cells #[.int .i64 5, .int .i64 px] 56))
            have HMYL := hid hMy.lt
            have HBW := hid (hBx.alloc hBx.size (.cells #[.int .i64 5, .int .i64 px] 56))
            have HEV := hid (CellsAt.new w10 [.int .i64 5, .int .i64 px] 56)
            clear hMx hMy hKx hBx HX
            go_wp2_with fail
            generalize w10.alloc _ = W11 at *
            refine (HY.out W11 HMY.out).mono ?_
            rintro e w12 ⟨rfl, hMy, hKy⟩
            have hMx := HMX.out.other hKy hxy
            have hne : w10.heap.size ≠ b_y := fun e => by have h1 := HMYL.out; omega
            have HE2 := hid (HEV.out.kept hKy hne)
            have hBy := hKy.below HBW.out hwy (Nat.le_refl _)
            have f0 := HE2.out.2.2 0 _ rfl
            have fl := HE2.out.1
            have hn1 : ¬ w10.heap.size = w12.heap.size := by omega
            have hn2 : ¬ w12.heap.size = w10.heap.size := by omega
            have HMX := hid (hMx.alloc (.cells #[.int .i64 5, .int .i64 py] 56))
            have HMY := hid (hMy.alloc (.cells #[.int .i64 5, .int .i64 py] 56))
            have HBW := hid (hBy.alloc hBy.size (.cells #[.int .i64 5, .int .i64 py] 56))
            clear hMx hMy hKy hBy HY HEV HE2 hne HMYL
            have HSm := hid HR.out.sim
            clear HR
            go_wp2_with fail
            generalize w12.alloc _ = W13 at *
            refine (state_is bx _ HMX.out HSm.out.rg (HE.out.below HBW.out HE.out.1)).mono ?_
            rintro e wa ⟨s1, rfl, hs1, hBa⟩
            have HMY := hid (HMY.out.next hBa)
            have HBW := hid (HBW.out.trans (hBa.mono HBW.out.size))
            have HS1 := hid hs1
            clear hBa hs1 HMX
            go_wp2_with fail
            refine (state_is b_y _ HMY.out HSm.out.rg (HE.out.below HBW.out HE.out.1)).mono ?_
            rintro e wb ⟨s2, rfl, hs2, hBb⟩
            have HBW := hid (HBW.out.trans (hBb.mono HBW.out.size))
            have hss : s1 = s2 := str_eq (by rw [HS1.out, hs2, HSm.out.text])
            subst hss
            clear hBb hs2 HS1 HMY
            go_wp2_with fail
            go_ret
            exact ⟨rfl, HBW.out⟩
          · have HX := hid (hX bx _ wr HR.out.x)
            have HY := hid (fun W h => hY b_y 92 W h)
            clear hX hY
            go_wp2_with fail
            refine HX.out.mono ?_
            rintro e w10 ⟨rfl, hMx, hKx⟩
            unfold evV at HY ⊢
            have hMy := HR.out.y.other hKx (fun e => hxy e.symm)
            have hBx := hKx.below HR.out.b hwx (Nat.le_refl _)
            have HMX := hid (hMx.alloc (.cells #[.int .i64 0, .int .i64 0] 56))
            have HMY := hid (hMy.alloc (.cells #[.int .i64 0, .int .i64 0] 56))
            have HMYL := hid hMy.lt
            have HBW := hid (hBx.alloc hBx.size (.cells #[.int .i64 0, .int .i64 0] 56))
            have HEV := hid (CellsAt.new w10 [.int .i64 0, .int .i64 0] 56)
            clear hMx hMy hKx hBx HX
            go_wp2_with fail
            generalize w10.alloc _ = W11 at *
            refine (HY.out W11 HMY.out).mono ?_
            rintro e w12 ⟨rfl, hMy, hKy⟩
            have hMx := HMX.out.other hKy hxy
            have hne : w10.heap.size ≠ b_y := fun e => by have h1 := HMYL.out; omega
            have HE2 := hid (HEV.out.kept hKy hne)
            have hBy := hKy.below HBW.out hwy (Nat.le_refl _)
            have f0 := HE2.out.2.2 0 _ rfl
            have fl := HE2.out.1
            have hn1 : ¬ w10.heap.size = w12.heap.size := by omega
            have hn2 : ¬ w12.heap.size = w10.heap.size := by omega
            have HMX := hid (hMx.alloc (.cells #[.int .i64 0, .int .i64 0] 56))
            have HMY := hid (hMy.alloc (.cells #[.int .i64 0, .int .i64 0] 56))
            have HBW := hid (hBy.alloc hBy.size (.cells #[.int .i64 0, .int .i64 0] 56))
            clear hMx hMy hKy hBy HY HEV HE2 hne HMYL
            have HSm := hid hS
            clear HR hS
            go_wp2_with fail
            refine ⟨⟨q + 1, k', mx', my', regs', by go_num, by omega, hid ⟨HSm.out, HMX.out, HMY.out, HBW.out⟩⟩, ?_⟩
            simp [intOf]
            omega
        · have hlti : ¬ (q : Int) < n := by omega
          have HMX := hid HR.out.x
          have HMY := hid HR.out.y
          have HSm := hid HR.out.sim
          have HBW := hid HR.out.b
          clear HR
          go_wp2_with fail
          refine (state_is bx _ HMX.out HSm.out.rg (HE.out.below HBW.out HE.out.1)).mono ?_
          rintro e wa ⟨s1, rfl, hs1, hBa⟩
          have HMY := hid (HMY.out.next hBa)
          have HBW := hid (HBW.out.trans (hBa.mono HBW.out.size))
          have HS1 := hid hs1
          clear hBa hs1 HMX
          go_wp2_with fail
          refine (state_is b_y _ HMY.out HSm.out.rg (HE.out.below HBW.out HE.out.1)).mono ?_
          rintro e wb ⟨s2, rfl, hs2, hBb⟩
          have HBW := hid (HBW.out.trans (hBb.mono HBW.out.size))
          have hss : s1 = s2 := str_eq (by rw [HS1.out, hs2, HSm.out.text])
          subst hss
          clear hBb hs2 HS1 HMY
          go_wp2_with fail
          go_ret
          exact ⟨rfl, HBW.out⟩
end Go.Proofs.YtbmcofdodfcnnaaGreatDoor
