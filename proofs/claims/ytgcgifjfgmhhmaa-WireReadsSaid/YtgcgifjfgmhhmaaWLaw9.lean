/- The walk of WireReads: the law returns true for every input; what lay lies as it lay. -/
import Derived.Test.YtgcgifjfgmhhmaaWLaw7
import Derived.Test.YtgcgifjfgmhhmaaWQd
namespace Go.Proofs.Ytgcgifjfgmhhmaa
open Go.RowKit

/-- One of two slices by number. -/
theorem two_at {W wr : World} {ga L2 L c2 c1 : Nat} {F2 F : List UInt8} {A2 A1 : Option Addr} (hga : ga < W.heap.size) (hc0 : W.cell? ⟨ga, 0, none⟩ = some (.slice A2 L2 c2)) (hc1 : W.cell? ⟨ga, 1, none⟩ = some (.slice A1 L c1)) (h2 : In .u8 W (· < ga) (.slice A2 L2 c2) (bI F2)) (h1 : In .u8 W (· < ga) (.slice A1 L c1) (bI F)) (hl2 : L2 ≤ 60) (hl : L ≤ 400)
    (hb : Below W.heap.size W wr) {j : Nat} (hj : j < 2) : ∃ A n c G, wr.cell? ⟨ga, j, none⟩ = some (.slice A n c) ∧ In .u8 wr (· < ga) (.slice A n c) (bI G) ∧ n ≤ 400 ∧ G.length = n := by
  match j, hj with
  | 0, _ => exact ⟨A2, L2, c2, F2, (hb.cell (p := ⟨ga, 0, none⟩) hga).trans hc0, h2.new hb, by omega, by have := h2.len.1; rw [bI_len] at this; exact this.symm⟩
  | 1, _ => exact ⟨A1, L, c1, F, (hb.cell (p := ⟨ga, 1, none⟩) hga).trans hc1, h1.new hb, hl, by have := h1.len.1; rw [bI_len] at this; exact this.symm⟩
set_option maxRecDepth 100000 in
set_option maxHeartbeats 6400000 in
theorem wireReads_walk (bl : List UInt8) (A0 : Option Addr) (l0 c0 : Nat) (ls : List Int) (A : Option Addr) (ln c : Nat) (at0 : Int) (cb : UInt8) (ks : List Int) (A4 : Option Addr) (l4 c4 : Nat) (w : World)
    (h0l : (bI bl).length ≤ maxLen) (h0s : Src .u8 w (.slice A0 l0 c0) (bI bl)) (hln : ls.length = ln) (hlm : ln ≤ maxLen) (hwf : ∀ x ∈ ls, (Lit.int .i64 x).wf = true) (hsrc : Src .i64 w (.slice A ln c) ls) (hat : (Lit.int .i64 at0).wf = true)
    (h4l : ks.length = l4) (h4m : l4 ≤ maxLen) (h4w : ∀ x ∈ ks, (Lit.int .i64 x).wf = true) (h4s : Src .i64 w (.slice A4 l4 c4) ks) :
    Calls Try.prog 4 #[.slice A0 l0 c0, .slice A ln c, .int .i64 at0, .int .u8 cb.toNat, .slice A4 l4 c4] w fun e w' => e = .returned (.bool true) ∧ Below w.heap.size w w' := by
  obtain ⟨i0, hi0, hz0, hz1, hz2⟩ := info_parts val_info
  have HAT := Lib.hid hat
  have H0L := Lib.hid h0l
  have H0S := Lib.hid h0s
  have H4L := Lib.hid h4l
  have H4W := Lib.hid h4w
  have H4S := Lib.hid h4s
  have h4m' := h4m
  unfold maxLen at h4m'
  clear hat h0l h0s h4l h4w h4s h4m
  go_enter Try.func4, Try.ntmps4
  go_wp2_with fail
  refine (vals_any ls A ln c w hln hlm hwf hsrc).mono ?_
  rintro e w1 ⟨a1, c1, zs, rfl, hy8, hown, hys, hb1, hty⟩
  obtain ⟨m, hm⟩ : ∃ m, zs.length = m := ⟨_, rfl⟩
  rw [hm] at hy8 hown hys ⊢
  have HZL := Lib.hid hm
  have hvs := Vs.of_rows hown hm.symm hys
  have HSH := Lib.hid (show ∀ y ∈ zs, Short y.x from fun y hy => (hys y hy).1)
  have HTY := Lib.hid hty
  have HVS := Lib.hid hvs
  have HB1 := Lib.hid hb1
  clear hm hys hwf hln hlm hsrc hown hb1 hvs hty
  go_wp2_with fail
  refine (rencode_any zs a1 m c1 _ w1 (fun y hy => (HSH.out y hy).fit) HZL.out (by omega) HVS.out).mono ?_
  rintro e w2 ⟨a2, c2, rfl, hown2, hb2⟩
  have HB2 := Lib.hid (HB1.out.trans (hb2.mono HB1.out.size))
  have HVS2 := Lib.hid (HVS.out.lt.new hb2)
  have HVS1 := Lib.hid HVS.out
  have HB1' := Lib.hid HB1.out
  have HB12 := Lib.hid hb2
  have hlen : (encs (xs zs)).length ≤ 400 := by have := encs_tiny HSH.out HTY.out; have := HZL.out; omega
  obtain ⟨E, hE⟩ : ∃ E, encs (xs zs) = E := ⟨_, rfl⟩
  rw [hE] at hown2 hlen ⊢
  obtain ⟨L, hL⟩ : ∃ L, E.length = L := ⟨_, rfl⟩
  rw [bI_len, hL] at hown2 ⊢
  rw [hL] at hlen
  have HL := Lib.hid hL
  have HO2 := Lib.hid hown2
  clear hE hL hown2 hb2 HB1 HVS
  by_cases hpos : 0 < L
  case' pos =>
    obtain ⟨L', hL'⟩ : ∃ L', L = L' + 1 := ⟨L - 1, by omega⟩
    obtain ⟨g2, c2', e2⟩ := ownsRow_succ (k := L') (by rw [← hL']; exact HO2.out)
    rw [← hL'] at e2
    injection e2 with e21 e22 e23
    subst e21 e23
    clear hL'
    go_wp2_with fail
    refine (around_any at0 L w2 (by omega) (by omega) HAT.out).mono ?_
    rintro e w' ⟨rfl, rfl⟩
    have hk := aroundI_lt at0 (n := L) (by omega)
    generalize aroundI at0 L = k at hk
    have hcell : w2.cell? ⟨g2, k, none⟩ = some (.int .u8 ((bI E).getD k 0)) := by
      rw [HO2.out.cellAt k (by omega)]
      exact vs_get (by rw [List.getD_eq_getElem?_getD, List.getElem?_eq_getElem (by rw [bI_len, HL.out]; exact hk)]; rfl)
    have hfr := HO2.out.frozenAt k
    obtain ⟨hst, hgr⟩ := HO2.out.stored k (.int .u8 cb.toNat)
    rw [vs_set, bI_set] at hst
    have hbs : Below w1.heap.size w1 (w2.setCell ⟨g2, k, none⟩ (.int .u8 cb.toNat)) := HB12.out.setCell (p := ⟨g2, k, none⟩) (own_block_ge HO2.out g2 rfl) _
    generalize (bI E).getD k 0 = old at hcell
    have HST := Lib.hid hst
    have HBS := Lib.hid hbs
    have HEL := Lib.hid (show (E.set k cb).length = L by rw [List.length_set]; exact HL.out)
    clear hst hgr hbs
    go_wp2_with fail
    obtain ⟨w3, hw3⟩ : ∃ W, w2.setCell ⟨g2, k, none⟩ (.int .u8 cb.toNat) = W := ⟨_, rfl⟩
    obtain ⟨F, hF⟩ : ∃ F, E.set k cb = F := ⟨_, rfl⟩
    rw [hw3] at HST HBS ⊢
    rw [hF] at HST HEL
    have HF := Lib.hid HEL.out
    have HI3 := Lib.hid (In.own HST.out).in_lt
    have HB3 := Lib.hid (HB1'.out.trans (HBS.out.mono HB1'.out.size))
    have HVS3 := Lib.hid (HVS1.out.lt.new HBS.out)
    clear hw3 hF hcell hfr HST HBS HEL hk
    obtain ⟨a2, ha2⟩ : ∃ a, some (⟨g2, 0, none⟩ : Addr) = a := ⟨_, rfl⟩
    rw [ha2] at HI3 ⊢
    clear ha2
  case' neg =>
    have hnp : decide (0 < (L : Int)) = false := by simp; omega
    go_wp2_with fail
    obtain ⟨w3, rfl⟩ : ∃ W, W = w2 := ⟨_, rfl⟩
    obtain ⟨F, rfl⟩ : ∃ F, F = E := ⟨_, rfl⟩
    have HF := Lib.hid HL.out
    have HI3 := Lib.hid (In.own HO2.out).in_lt
    have HB3 := Lib.hid (HB1'.out.trans (HB12.out.mono HB1'.out.size))
    have HVS3 := Lib.hid (HVS1.out.lt.new HB12.out)
    clear hnp
  all_goals
    clear HO2 HB12 HVS1 HB1' HVS2 HB2 HL hpos
    refine (few_any _ (bI bl) 60 w3 (src_below H0S.out HB3.out) H0L.out (by decide)).mono ?_
    rintro e w9 ⟨a11, c11, rfl, hown9, hb9⟩
    rw [bI_take] at hown9 ⊢
    obtain ⟨F2, hF2⟩ : ∃ l, bl.take 60 = l := ⟨_, rfl⟩
    rw [hF2] at hown9 ⊢
    have hl60 : F2.length ≤ 60 := by rw [← hF2, List.length_take]; omega
    obtain ⟨L2, hL2⟩ : ∃ q, F2.length = q := ⟨_, rfl⟩
    rw [bI_len, hL2] at hown9 ⊢
    rw [hL2] at hl60
    have HB9 := Lib.hid (HB3.out.trans (hb9.mono HB3.out.size))
    have HI9 := Lib.hid ((In.own hown9).in_lt.mono (ok' := (· < w9.heap.size)) (fun b h _ => h))
    have HJ9 := Lib.hid ((HI3.out.new hb9).mono (ok' := (· < w9.heap.size)) (fun b h _ => h))
    clear hF2 hL2 hown9 hb9 HB3 HI3 HVS3 HZL HSH HTY HF HAT
    go_wp2_with fail
    obtain ⟨ga, hga⟩ : ∃ ga, w9.heap.size = ga := ⟨_, rfl⟩
    have hbz := (Below.refl w9.heap.size w9).alloc (Nat.le_refl _) (.cells #[.slice a11 L2 c11, .slice a2 L c2] 24)
    have hnw := World.alloc_heap_new w9 (.cells #[.slice a11 L2 c11, .slice a2 L c2] 24)
    have hsz : (w9.alloc (.cells #[.slice a11 L2 c11, .slice a2 L c2] 24)).heap.size = w9.heap.size + 1 := by simp
    obtain ⟨W, hW⟩ : ∃ W, w9.alloc (.cells #[.slice a11 L2 c11, .slice a2 L c2] 24) = W := ⟨_, rfl⟩
    rw [hW] at hbz hnw hsz ⊢
    have HBZ := Lib.hid (HB9.out.trans (hbz.mono HB9.out.size))
    have HIA := Lib.hid (HI9.out.new hbz)
    have HIB := Lib.hid (HJ9.out.new hbz)
    rw [hga] at hnw hsz HIA HIB ⊢
    have HGA := Lib.hid (show ga < W.heap.size by omega)
    have HC0 := Lib.hid (show W.cell? ⟨ga, 0, none⟩ = some (.slice a11 L2 c11) by simp [World.cell?, hnw])
    have HC1 := Lib.hid (show W.cell? ⟨ga, 1, none⟩ = some (.slice a2 L c2) by simp [World.cell?, hnw])
    clear hbz hnw hsz hW hga HB9 HI9 HJ9
    go_loopw [13] (fun i wr => ∃ j : Nat, j ≤ 2 ∧ i = .int .i64 j ∧ Below W.heap.size W wr) (fun i _ => 2 - (intOf i).toNat)
    case atStart => exact ⟨0, by omega, rfl, Below.refl _ _⟩
    case round =>
      obtain ⟨j, hj, rfl, hbw⟩ := hrel
      obtain ⟨wo, rfl⟩ : ∃ X, X = wr := ⟨_, rfl⟩
      have HBW := Lib.hid hbw
      clear hbw
      by_cases hlt : j < 2
      · obtain ⟨A9, n9, c9, G, hcell, hin, hn9, hgl⟩ := two_at HGA.out HC0.out HC1.out HIA.out HIB.out hl60 hlen HBW.out hlt
        have HIN := Lib.hid hin
        have HGL := Lib.hid hgl
        have HGW := Lib.hid (Nat.lt_of_lt_of_le HGA.out HBW.out.size)
        clear hin hgl
        have hd0 : decide ((j : Int) < 2) = true := by simp; omega
        go_wp2_with fail
        refine (read_new G A9 n9 c9 _ wo HGL.out (by omega) HIN.out).mono ?_
        rintro e w4 ⟨⟨g1, rfl, hr4, hg4⟩, hb4⟩
        have hcell4 := (hb4.cell (p := ⟨ga, j, none⟩) HGW.out).trans hcell
        have hI4 := HIN.out.new hb4
        have hL4 := hr4.lt
        have hz4 := hb4.size
        have hbz := (Below.refl w4.heap.size w4).alloc (Nat.le_refl _) (.cells #[.slice A9 n9 c9, .int .i64 0] 47)
        have HR5 := Lib.hid (hr4.new hbz)
        have HS5 := Lib.hid (show Rdr 47 (w4.alloc (.cells #[.slice A9 n9 c9, .int .i64 0] 47)) w4.heap.size (· < ga) ⟨G, 0⟩ from
          ⟨A9, n9, c9, G, World.alloc_heap_new w4 _, hI4.new hbz, fun _ => rfl, by rw [HGL.out]; omega, by have := HGW.out; omega⟩)
        have HB5 := Lib.hid (HBW.out.trans ((hb4.trans (hbz.mono hz4)).mono HBW.out.size))
        have HG1 := Lib.hid (Nat.le_trans HBW.out.size hg4)
        have HG0 := Lib.hid hg4
        have HG2 := Lib.hid hL4
        have HG3 := Lib.hid (Nat.lt_of_lt_of_le HGW.out hg4)
        clear hcell hr4 hg4 hb4 hI4 hL4 hz4 hbz HIN
        go_wp2_with fail
        obtain ⟨g2, hg2⟩ : ∃ g2, w4.heap.size = g2 := ⟨_, rfl⟩
        obtain ⟨w5, hw5⟩ : ∃ X, w4.alloc (.cells #[.slice A9 n9 c9, .int .i64 0] 47) = X := ⟨_, rfl⟩
        rw [hw5] at HR5 HS5 HB5 ⊢
        rw [hg2] at HS5 HG2 ⊢
        have HBT := Lib.hid (HBZ.out.trans (HB5.out.mono HBZ.out.size))
        have HW5 := Lib.hid HB5.out.size
        clear hw5 hg2 hcell4
        go_loopw [16] (fun i wr => ∃ (q : Nat) (gs : List Y) (s : St), q ≤ l4 ∧ q ≤ 10 ∧ i = .int .i64 q ∧ Rdr 77 wr g1 (fun b => wo.heap.size ≤ b ∧ b < g1) s ∧ Rdr 47 wr g2 (· < ga) s ∧ Got G gs s ∧ Kp (fun b => b = g1 ∨ b = g2) w5 wr) (fun i _ => 10 - (intOf i).toNat)
        case atStart => exact ⟨0, [], ⟨G, 0⟩, by omega, by omega, rfl, HR5.out, HS5.out, (fun _ => rfl), Kp.refl _ _⟩
        case round =>
          obtain ⟨q, gs, s, hq4, hq10, rfl, hr, hs, hgot, hkp⟩ := hrel
          have HR := Lib.hid hr
          have HS := Lib.hid hs
          have HGOT := Lib.hid hgot
          have HK := Lib.hid hkp
          have HLR := Lib.hid hr.lt
          have HLS := Lib.hid hs.lt
          clear hr hs hgot hkp
          by_cases hc : q < l4 ∧ q < 10
          · obtain ⟨h1, h2⟩ := hc
            have hjl : q < ks.length := by rw [H4L.out]; exact h1
            have hd1 : decide (q < l4) = true := by simp; omega
            have hd2 : decide ((q : Int) < 10) = true := by simp; omega
            have hbel : Below w.heap.size w wr := HBT.out.trans (HK.out.below (B := w.heap.size) HBT.out.size (fun b h => by have := HG1.out; have := HG2.out; have := HBZ.out.size; rcases h with rfl | rfl <;> omega))
            obtain ⟨ad, rfl, hbs0, hcell0⟩ := src_at (src_below H4S.out hbel) hjl
            have hwk : (Lit.int .i64 (ks.getD q 0)).wf = true := by
              rw [List.getD_eq_getElem?_getD, List.getElem?_eq_getElem hjl]
              exact H4W.out _ (List.getElem_mem _)
            generalize ks.getD q 0 = x at hcell0 hwk
            have HWK := Lib.hid hwk
            clear hwk hbel hjl
            go_wp2_with fail
            refine (around_any x 6 wr (by omega) (by omega) HWK.out).mono ?_
            rintro e w' ⟨rfl, rfl⟩
            have hk6 := aroundI_lt x (n := 6) (by omega)
            obtain ⟨k6, hkk6⟩ : ∃ k, aroundI x 6 = k := ⟨_, rfl⟩
            rw [hkk6] at hk6 ⊢
            have HFIT := Lib.hid (fit_read k6 (by omega) s (HGOT.out.len (by rw [HGL.out]; omega)))
            clear hkk6 hcell0 hbs0
            go_wp2_with fail
            refine (lread_any k6 g1 _ s wr (by omega) HR.out (fun b hb => Nat.lt_trans hb.2 HLR.out)).mono ?_
            rintro e w7 ⟨y1, rfl, hx1, hi1, hr7, hk7⟩
            have HX1 := Lib.hid hx1
            have HI1 := Lib.hid hi1
            have HR7 := Lib.hid hr7
            have HS7 := Lib.hid (HS.out.kp hk7 (fun e => by have := HG2.out; omega) (fun b _ h e => by have := HG3.out; omega))
            have HK7 := Lib.hid (HK.out.step hk7 (fun b _ h => .inl h))
            have HZ7 := Lib.hid hk7.size
            clear hx1 hi1 hr7 hk7 HR HS HK
            go_wp2_with fail
            refine (rread_any k6 g2 _ s w7 (by omega) HS7.out (fun b hb => by have := HG3.out; have := HG2.out; have := HLS.out; have := HZ7.out; omega)).mono ?_
            rintro e w8 ⟨y2, rfl, hx2, hi2, hs8, hk8⟩
            have HX2 := Lib.hid (HX1.out.trans hx2.symm)
            have HI2 := Lib.hid hi2
            have HS8 := Lib.hid hs8
            have HR8 := Lib.hid (HR7.out.kp hk8 (fun e => by have := HG2.out; omega) (fun b _ h e => by have := HG2.out; have := h.2; omega))
            have HJ1 := Lib.hid (HI1.out.kp hk8 (fun b _ h e => by have := HLS.out; omega))
            have HK8 := Lib.hid (HK7.out.step hk8 (fun b _ h => .inr h))
            have HGT := Lib.hid (HGOT.out.step HX1.out)
            have HF1 := Lib.hid (show Fit y1.x by rw [HX1.out]; exact HFIT.out)
            clear hx2 hi2 hs8 hk8 HR7 HS7 HI1 HK7 HX1
            go_wp2_with fail
            refine (same_true y1 y2 _ _ w8 HX2.out HJ1.out HI2.out HF1.out.b HF1.out.l).mono ?_
            rintro e w10 ⟨rfl, hb10⟩
            have HR10 := Lib.hid (HR8.out.new hb10)
            have HS10 := Lib.hid (HS8.out.new hb10)
            have HK10 := Lib.hid (HK8.out.trans (Kp.new hb10))
            clear hb10 HR8 HS8 HK8 HJ1 HI2
            go_wp2_with fail
            refine (rdend_any g1 _ _ w10 HR10.out).mono ?_
            rintro e w' ⟨rfl, rfl⟩
            obtain ⟨z, hz⟩ : ∃ z, endS (readV k6 s).2 = z := ⟨_, rfl⟩
            have HZ := Lib.hid hz
            rw [hz]
            clear hz
            go_wp2_with fail
            refine (rrend_any g2 _ _ w10 HS10.out).mono ?_
            rw [HZ.out]
            rintro e w' ⟨rfl, rfl⟩
            have hzz : ((z : Int) != (z : Int)) = false := by simp
            go_wp2
            go_roundw
            case rel => exact ⟨q + 1, _, _, by omega, by omega, by go_num, HR10.out, HS10.out, HGT.out, HK10.out⟩
            case measure => simp [intOf]; omega
          · have HBE := Lib.hid (HB5.out.trans (HK.out.below (B := W.heap.size) HW5.out (fun b h => by have := HG1.out; have := HG2.out; rcases h with rfl | rfl <;> omega)))
            have hc' : (¬ q < l4) ∨ (q < l4 ∧ ¬ q < 10) := by
              by_cases h1 : q < l4
              · exact .inr ⟨h1, fun h => hc ⟨h1, h⟩⟩
              · exact .inl h1
            clear hc
            rcases hc' with h1 | ⟨h1, h2⟩
            · have hd1 : decide (q < l4) = false := by simp; omega
              go_wp2
              go_roundw
              case rel => exact ⟨j + 1, by omega, by go_num, HBE.out⟩
              case measure => simp [intOf]; omega
            · have hd1 : decide (q < l4) = true := by simp; omega
              have hd2 : decide ((q : Int) < 10) = false := by simp; omega
              go_wp2
              go_roundw
              case rel => exact ⟨j + 1, by omega, by go_num, HBE.out⟩
              case measure => simp [intOf]; omega
      · have hd0 : decide ((j : Int) < 2) = false := by simp; omega
        have HBE := Lib.hid (HBZ.out.trans (HBW.out.mono HBZ.out.size))
        go_wp2_with fail
        refine (lives_any wo).mono ?_
        rintro e w15 ⟨rfl, hb15⟩
        have HB15 := Lib.hid (HBE.out.trans (hb15.mono HBE.out.size))
        go_wp2
        go_ret
        exact ⟨rfl, HB15.out⟩
theorem wireReads_law (a0 : Option Addr) (len0 cap0 : Nat) (z0 : List Int) (a1 : Option Addr) (len1 cap1 : Nat) (z1 : List Int) (a2 a3 : Int) (a4 : Option Addr) (len4 cap4 : Nat) (z4 : List Int) (w : World)
    (w0 : RowI .u8 w a0 len0 cap0 z0) (w1 : RowI .i64 w a1 len1 cap1 z1) (w2 : (Lit.int .i64 a2).wf = true) (w3 : (Lit.int .u8 a3).wf = true) (w4 : RowI .i64 w a4 len4 cap4 z4) :
    Calls Try.prog 4 #[.slice a0 len0 cap0, .slice a1 len1 cap1, .int .i64 a2, .int .u8 a3, .slice a4 len4 cap4] w fun e w' => e = .returned (.bool true) ∧ Below w.heap.size w w' := by
  obtain ⟨cb, rfl⟩ := byte_of_wf w3
  obtain ⟨bl, g1, g2⟩ := w0.bytes
  obtain ⟨ls, h1, h2, h3, h4⟩ := w1.open_
  obtain ⟨ks, k1, k2, k3, k4⟩ := w4.open_
  exact wireReads_walk bl a0 len0 cap0 ls a1 len1 cap1 a2 cb ks a4 len4 cap4 w g1 g2 h1 h2 h3 h4 w2 k1 k2 k3 k4
end Go.Proofs.Ytgcgifjfgmhhmaa
