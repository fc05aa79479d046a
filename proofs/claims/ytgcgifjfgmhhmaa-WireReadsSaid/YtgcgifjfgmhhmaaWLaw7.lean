/- The walk of WireOne: the law returns true for every input; what lay lies as it lay. -/
import Derived.Test.YtgcgifjfgmhhmaaWLaw6
import Derived.Test.YtgcgifjfgmhhmaaWLaw4
namespace Go.Proofs.Ytgcgifjfgmhhmaa
open Go.RowKit

theorem bI_set (X : List UInt8) (k : Nat) (c : UInt8) : (bI X).set k (c.toNat : Int) = bI (X.set k c) := by simp [bI, List.map_set]
theorem vs_set (k : IntKind) (zs : List Int) (i : Nat) (v : Int) : (vs k zs).set i (.int k v) = vs k (zs.set i v) := by simp [vs, List.map_set]
set_option maxRecDepth 100000 in
set_option maxHeartbeats 6400000 in
theorem wireOne_walk (bl : List UInt8) (A0 : Option Addr) (l0 c0 : Nat) (ls : List Int) (A : Option Addr) (ln c : Nat) (at0 : Int) (cb : UInt8) (ks : List Int) (A4 : Option Addr) (l4 c4 : Nat) (w : World)
    (h0l : (bI bl).length ≤ maxLen) (h0s : Src .u8 w (.slice A0 l0 c0) (bI bl)) (hln : ls.length = ln) (hlm : ln ≤ maxLen) (hwf : ∀ x ∈ ls, (Lit.int .i64 x).wf = true) (hsrc : Src .i64 w (.slice A ln c) ls) (hat : (Lit.int .i64 at0).wf = true)
    (h4l : ks.length = l4) (h4m : l4 ≤ maxLen) (h4w : ∀ x ∈ ks, (Lit.int .i64 x).wf = true) (h4s : Src .i64 w (.slice A4 l4 c4) ks) :
    Calls Try.prog 6 #[.slice A0 l0 c0, .slice A ln c, .int .i64 at0, .int .u8 cb.toNat, .slice A4 l4 c4] w fun e w' => e = .returned (.bool true) ∧ Below w.heap.size w w' := by
  obtain ⟨i0, hi0, hz0, hz1, hz2⟩ := info_parts val_info
  have HAT := Lib.hid hat
  have H0L := Lib.hid h0l
  have H0S := Lib.hid h0s
  have H4L := Lib.hid h4l
  have H4W := Lib.hid h4w
  have H4S := Lib.hid h4s
  have h4m' := h4m
  unfold maxLen at h4m'
  clear hat h0l h0s h4l h4w h4s h4m
  go_enter Try.func6, Try.ntmps6
  go_wp2_with fail
  refine (vals_any ls A ln c w hln hlm hwf hsrc).mono ?_
  rintro e w1 ⟨a1, c1, zs, rfl, hy8, hown, hys, hb1, hty⟩
  obtain ⟨m, hm⟩ : ∃ m, zs.length = m := ⟨_, rfl⟩
  rw [hm] at hy8 hown hys ⊢
  have HZL := Lib.hid hm
  have hvs := Vs.of_rows hown hm.symm hys
  have HSH := Lib.hid (show ∀ y ∈ zs, Short y.x from fun y hy => (hys y hy).1)
  have HTY := Lib.hid hty
  have HVS := Lib.hid hvs
  have HB1 := Lib.hid hb1
  clear hm hys hwf hln hlm hsrc hown hb1 hvs hty
  go_wp2_with fail
  refine (encode_any zs a1 m c1 _ w1 (fun y hy => (HSH.out y hy).fit) HZL.out (by omega) HVS.out).mono ?_
  rintro e w2 ⟨a2, c2, rfl, hown2, hb2⟩
  have HB2 := Lib.hid (HB1.out.trans (hb2.mono HB1.out.size))
  have HVS2 := Lib.hid (HVS.out.lt.new hb2)
  have HVS1 := Lib.hid HVS.out
  have HB1' := Lib.hid HB1.out
  have HB12 := Lib.hid hb2
  have hlen : (encs (xs zs)).length ≤ 400 := by have := encs_tiny HSH.out HTY.out; have := HZL.out; omega
  obtain ⟨E, hE⟩ : ∃ E, encs (xs zs) = E := ⟨_, rfl⟩
  rw [hE] at hown2 hlen ⊢
  obtain ⟨L, hL⟩ : ∃ L, E.length = L := ⟨_, rfl⟩
  rw [bI_len, hL] at hown2 ⊢
  rw [hL] at hlen
  have HL := Lib.hid hL
  have HO2 := Lib.hid hown2
  clear hE hL hown2 hb2 HB1 HVS
  by_cases hpos : 0 < L
  case' pos =>
    obtain ⟨L', hL'⟩ : ∃ L', L = L' + 1 := ⟨L - 1, by omega⟩
    obtain ⟨g2, c2', e2⟩ := ownsRow_succ (k := L') (by rw [← hL']; exact HO2.out)
    rw [← hL'] at e2
    injection e2 with e21 e22 e23
    subst e21 e23
    clear hL'
    go_wp2_with fail
    refine (around_any at0 L w2 (by omega) (by omega) HAT.out).mono ?_
    rintro e w' ⟨rfl, rfl⟩
    have hk := aroundI_lt at0 (n := L) (by omega)
    generalize aroundI at0 L = k at hk
    have hcell : w2.cell? ⟨g2, k, none⟩ = some (.int .u8 ((bI E).getD k 0)) := by
      rw [HO2.out.cellAt k (by omega)]
      exact vs_get (by rw [List.getD_eq_getElem?_getD, List.getElem?_eq_getElem (by rw [bI_len, HL.out]; exact hk)]; rfl)
    have hfr := HO2.out.frozenAt k
    obtain ⟨hst, hgr⟩ := HO2.out.stored k (.int .u8 cb.toNat)
    rw [vs_set, bI_set] at hst
    have hbs : Below w1.heap.size w1 (w2.setCell ⟨g2, k, none⟩ (.int .u8 cb.toNat)) := HB12.out.setCell (p := ⟨g2, k, none⟩) (own_block_ge HO2.out g2 rfl) _
    generalize (bI E).getD k 0 = old at hcell
    have HST := Lib.hid hst
    have HBS := Lib.hid hbs
    have HEL := Lib.hid (show (E.set k cb).length = L by rw [List.length_set]; exact HL.out)
    clear hst hgr hbs
    go_wp2_with fail
    obtain ⟨w3, hw3⟩ : ∃ W, w2.setCell ⟨g2, k, none⟩ (.int .u8 cb.toNat) = W := ⟨_, rfl⟩
    obtain ⟨F, hF⟩ : ∃ F, E.set k cb = F := ⟨_, rfl⟩
    rw [hw3] at HST HBS ⊢
    rw [hF] at HST HEL
    have HF := Lib.hid HEL.out
    have HI3 := Lib.hid (In.own HST.out).in_lt
    have HB3 := Lib.hid (HB1'.out.trans (HBS.out.mono HB1'.out.size))
    have HVS3 := Lib.hid (HVS1.out.lt.new HBS.out)
    clear hw3 hF hcell hfr HST HBS HEL hk
  case' neg =>
    have hnp : decide (0 < (L : Int)) = false := by simp; omega
    go_wp2_with fail
    obtain ⟨w3, rfl⟩ : ∃ W, W = w2 := ⟨_, rfl⟩
    obtain ⟨F, rfl⟩ : ∃ F, F = E := ⟨_, rfl⟩
    have HF := Lib.hid HL.out
    have HI3 := Lib.hid (In.own HO2.out).in_lt
    have HB3 := Lib.hid (HB1'.out.trans (HB12.out.mono HB1'.out.size))
    have HVS3 := Lib.hid (HVS1.out.lt.new HB12.out)
    clear hnp
  all_goals
    clear HO2 HB12 HVS1 HB1' HVS2 HB2 HL hpos
    refine (read_new F _ L _ _ w3 HF.out (by omega) HI3.out).mono ?_
    rintro e w4 ⟨⟨g, rfl, hr4, hg4⟩, hb4⟩
    have HB4 := Lib.hid (HB3.out.trans (hb4.mono HB3.out.size))
    have HG1 := Lib.hid (Nat.le_trans HB3.out.size hg4)
    have HG2 := Lib.hid hr4.lt
    have HR4 := Lib.hid (hr4.mono (ok' := (· < g)) (fun b _ h => h.2) (fun h => Nat.lt_irrefl _ h))
    have HVS4 := Lib.hid ((HVS3.out.lt.new hb4).mono (ok' := (· < g)) (fun b _ h => by omega))
    have HI4 := Lib.hid ((HI3.out.new hb4).mono (ok' := (· < g)) (fun b _ h => by omega))
    clear hr4 hg4 hb4 HB3 HVS3 HI3
    go_wp2_with fail
    go_loopw [14, 15] (fun v i wr => ∃ (j : Nat) (gs : List Y) (s : St), j ≤ m ∧ i = .int .i64 j ∧ gs.length = j ∧ wr.ownsRow w4.heap.size 28 5 v j (cells5 gs) ∧ (∀ y ∈ gs, Fit y.x ∧ y.In wr (Off w4.heap.size v)) ∧ Rdr 77 wr g (· < g) s ∧ Got F gs s ∧ Vs wr (· < g) (.slice a1 m c1) zs ∧ Kp (· = g) w4 wr) (fun _ i _ => m - (intOf i).toNat)
    case atStart => exact ⟨0, [], ⟨F, 0⟩, by omega, rfl, rfl, World.ownsRow_nil _ _ _ _, (fun y hy => by cases hy), HR4.out, (fun _ => rfl), HVS4.out, Kp.refl _ _⟩
    case round =>
      obtain ⟨j, gs, s, hj, rfl, hgl, hown, hgs, hr, hgot, hvs, hkp⟩ := hrel
      have HGL := Lib.hid hgl
      have HOW := Lib.hid hown
      have HGS := Lib.hid hgs
      have HR := Lib.hid hr
      have HGOT := Lib.hid hgot
      have HVV := Lib.hid hvs
      have HK := Lib.hid hkp
      have HSZ := Lib.hid hkp.size
      clear hgl hown hgs hr hgot hvs hkp
      by_cases hlt : j < m
      · have hjl : j < zs.length := by rw [HZL.out]; exact hlt
        obtain ⟨y, hy⟩ : ∃ y, zs[j]? = some y := ⟨_, List.getElem?_eq_getElem hjl⟩
        obtain ⟨G, rfl, hgg1, hgg2, hyi, hc0, hc1, hc2, hc3, hc4⟩ := HVV.out.at_ hy
        have HK5 := Lib.hid (HSH.out y (List.mem_of_getElem? hy)).fit.k
        have HFIT := Lib.hid (fit_read y.x.k HK5.out s (HGOT.out.len (by rw [HF.out]; omega)))
        clear hy hyi hc1 hc2 hc3 hc4
        go_wp2_with fail
        refine (lread_any y.x.k g _ s wr HK5.out HR.out (fun b hb => Nat.lt_trans hb HR.out.lt)).mono ?_
        rintro e w5 ⟨y1, rfl, hx1, hi1, hr5, hk5⟩
        have HOW5 := Lib.hid (own_kp HOW.out hk5 (fun b hb e => by have := HG2.out; omega))
        have HGS5 := Lib.hid (fun z hz => (⟨(HGS.out z hz).1, (HGS.out z hz).2.kp hk5 (fun b _ h e => by have := HG2.out; have := h.1; omega)⟩ : Fit z.x ∧ z.In w5 (Off w4.heap.size u14)))
        have HVV5 := Lib.hid (HVV.out.kp hk5 (fun b _ h e => by omega))
        have HK5' := Lib.hid (HK.out.trans hk5)
        have HR5 := Lib.hid hr5
        have HGOT5 := Lib.hid (HGOT.out.step hx1)
        have HY1 := Lib.hid (show Fit y1.x by rw [hx1]; exact HFIT.out)
        have HYI := Lib.hid (hi1.mono (ok' := Off w4.heap.size u14) (fun b _ h => ⟨by have := HSZ.out; omega, fun e => by have := (HOW.out.lt b e).2; omega⟩))
        obtain ⟨⟨k1, u1, n1, b1, l1⟩, sb1, sl1⟩ := y1
        obtain ⟨hf1, hf2⟩ := hi1
        dsimp only at hf1 hf2
        obtain ⟨a7, c7, rfl⟩ := hf1.form
        obtain ⟨a8, c8, rfl⟩ := hf2.form
        rw [bI_len] at HYI HGOT5 HY1 ⊢
        obtain ⟨q1, hq1⟩ : ∃ q, b1.length = q := ⟨_, rfl⟩
        obtain ⟨q2, hq2⟩ : ∃ q, l1.length = q := ⟨_, rfl⟩
        rw [hq1, hq2] at HYI HGOT5 HY1 ⊢
        rw [show Y.agg ⟨⟨k1, u1, n1, b1, l1⟩, .slice a7 q1 c7, .slice a8 q2 c8⟩ = .agg #[.int .i64 k1, .int .u64 u1, .int .i64 n1, .slice a7 q1 c7, .slice a8 q2 c8] from rfl]
        have HO2 := Lib.hid (show j + 1 ≤ maxLen by unfold maxLen; omega)
        have HO3 := Lib.hid (show (j + 1) * 72 ≤ 140737488355328 by omega)
        have HO4 := Lib.hid (show w4.heap.size ≤ w5.heap.size from Nat.le_trans HSZ.out hk5.size)
        clear hq1 hq2 hf1 hf2 hx1 hr5 hk5 hc0
        go_wp2_with (at_builtin; refine wpList_append_own_at _ rfl _ _ 25 rfl w4.heap.size 28 i0 _ 5 72 Try.underlying25 hi0 hz0 hz1 hz2 rfl (by decide) _ _ _ rfl (HOW5.out.alloc _) ⟨w5.heap.size, 0, none⟩ 1 1 [_, _, _, _, _] rfl rfl (five_new _ _ _ _ _ _ _) (five_one rfl rfl rfl rfl rfl) HO2.out HO3.out (alloc_ge HO4.out) ?_; intro v' w6 hown' hgrow _ hat)
        have hba := fun o => (Below.refl w5.heap.size w5).alloc (Nat.le_refl _) o
        obtain ⟨hgl6, hown6, hgs6⟩ := row_app (P := fun y => Fit y.x) HGL.out (fun z hz => ⟨(HGS5.out z hz).1, (HGS5.out z hz).2.new (hba _)⟩) hown' hgrow hat HY1.out (HYI.out.new (hba _)) rfl
        have hk6 : Kp (fun b => w4.heap.size ≤ b) w5 w6 := ((Kp.refl _ w5).alloc _).grown hgrow (fun b hb _ => own_block_ge HOW5.out b hb)
        have HVV6 := Lib.hid (HVV5.out.kp hk6 (fun b _ h e => by have := HG2.out; omega))
        have HR6 := Lib.hid (HR5.out.kp hk6 (fun e => by have := HG2.out; omega) (fun b _ h e => by have := HG2.out; omega))
        have HK6 := Lib.hid (HK5'.out.step hk6 (fun b h1 h2 => by omega))
        have HG6 := Lib.hid hgl6
        have HO6 := Lib.hid hown6
        have HS6 := Lib.hid hgs6
        clear hown' hgrow hat hba hgl6 hown6 hgs6 hk6
        go_wp2
        go_roundw
        case rel => exact ⟨j + 1, _, _, by omega, by go_num, HG6.out, HO6.out, HS6.out, HR6.out, HGOT5.out, HVV6.out, HK6.out⟩
        case measure => simp [intOf]; omega
      · go_wp2_with fail
        refine (rdend_any g _ s wr HR.out).mono ?_
        rintro e w' ⟨rfl, rfl⟩
        have HBW := Lib.hid (below_own1 HB4.out (Nat.le_refl _) HK.out HG1.out)
        obtain ⟨a9, c9, rfl⟩ := own_form HOW.out
        by_cases he : endS s = 0
        case' pos =>
          have HEQ := Lib.hid (HGOT.out.end_ he)
          have HVG := Lib.hid (show Vs wr (fun _ => True) (.slice a9 j c9) gs from Vs.own HOW.out HGL.out.symm (fun z hz => (HGS.out z hz).2.mono (fun _ _ _ => trivial)) (fun _ _ _ => trivial))
          have HIW := Lib.hid (HI4.out.kp HK.out (fun b _ h e => by omega))
          have HFT := Lib.hid (fun z hz => (HGS.out z hz).1)
          rw [he]
          clear he
          go_wp2_with fail
          refine (encode_any gs a9 j c9 _ wr HFT.out HGL.out (by omega) HVG.out).mono ?_
          rintro e w7 ⟨a10, c10, rfl, hown7, hb7⟩
          rw [← HEQ.out] at hown7 ⊢
          rw [bI_len, HF.out] at hown7 ⊢
          have HI7 := Lib.hid (In.own hown7)
          have HIW7 := Lib.hid (HIW.out.new hb7)
          have HB7 := Lib.hid (HBW.out.trans (hb7.mono HBW.out.size))
          clear hown7 hb7
          go_wp2_with fail
          refine (sameBytes_any (bI F) (bI F) _ _ L L _ _ _ _ true w7 (by rw [bI_len, HF.out]) (by rw [bI_len, HF.out]) (by omega) (by omega) HI7.out.rd HIW7.out.rd (Nat.le_refl _) (Nat.le_refl _) (by simp)).mono ?_
          rintro e w8 ⟨rfl, hb8⟩
          have HB8 := Lib.hid (HB7.out.trans (hb8.mono HB7.out.size))
          clear hb8 HI7 HIW7 HB7 HEQ HVG HIW HFT HBW
          go_wp2_with fail
        case' neg =>
          have hne : ((endS s : Int) == 0) = false := beq_eq_false_iff_ne.2 (by omega)
          clear he
          go_wp2_with fail
          obtain ⟨w8, rfl⟩ : ∃ W, W = wr := ⟨_, rfl⟩
          have HB8 := Lib.hid HBW.out
          clear HBW hne
        all_goals
          clear HGL HOW HGS HR HGOT HVV HK HSZ HI4 HVS4 HR4 HG1 HG2 HB4 HF HZL HSH HTY hj hlt
          refine (few_any _ (bI bl) 60 w8 (src_below H0S.out HB8.out) H0L.out (by decide)).mono ?_
          rintro e w9 ⟨a11, c11, rfl, hown9, hb9⟩
          rw [bI_take] at hown9 ⊢
          obtain ⟨F2, hF2⟩ : ∃ l, bl.take 60 = l := ⟨_, rfl⟩
          rw [hF2] at hown9 ⊢
          have hl60 : F2.length ≤ 60 := by rw [← hF2, List.length_take]; omega
          obtain ⟨L2, hL2⟩ : ∃ q, F2.length = q := ⟨_, rfl⟩
          rw [bI_len, hL2] at hown9 ⊢
          rw [hL2] at hl60
          have HF2 := Lib.hid hL2
          have HB9 := Lib.hid (HB8.out.trans (hb9.mono HB8.out.size))
          have HI9 := Lib.hid (In.own hown9).in_lt
          clear hF2 hL2 hown9 hb9 HB8
          go_wp2_with fail
          refine (read_new F2 _ L2 _ _ w9 HF2.out (by omega) HI9.out).mono ?_
          rintro e w10 ⟨⟨g3, rfl, hr10, hg10⟩, hb10⟩
          have HB10 := Lib.hid (HB9.out.trans (hb10.mono HB9.out.size))
          have HG21 := Lib.hid (Nat.le_trans HB9.out.size hg10)
          have HG22 := Lib.hid hr10.lt
          have HR10 := Lib.hid (hr10.mono (ok' := (· < g3)) (fun b _ h => h.2) (fun h => Nat.lt_irrefl _ h))
          have HI10 := Lib.hid ((HI9.out.new hb10).mono (ok' := (· < g3)) (fun b _ h => by omega))
          clear hr10 hg10 hb10 HB9 HI9
          go_wp2_with fail
          go_loopw [14, 17] (fun v i wr => ∃ (j : Nat) (gs : List Y) (s : St), j ≤ l4 ∧ j ≤ 10 ∧ i = .int .i64 j ∧ gs.length = j ∧ wr.ownsRow w10.heap.size 28 5 v j (cells5 gs) ∧ (∀ y ∈ gs, Fit y.x ∧ y.In wr (Off w10.heap.size v)) ∧ Rdr 77 wr g3 (· < g3) s ∧ Got F2 gs s ∧ Kp (· = g3) w10 wr) (fun _ i _ => 10 - (intOf i).toNat)
          case atStart => exact ⟨0, [], ⟨F2, 0⟩, by omega, by omega, rfl, rfl, World.ownsRow_nil _ _ _ _, (fun y hy => by cases hy), HR10.out, (fun _ => rfl), Kp.refl _ _⟩
          case round =>
            obtain ⟨j, gs, s, hj4, hj10, rfl, hgl, hown, hgs, hr, hgot, hkp⟩ := hrel
            have HGL := Lib.hid hgl
            have HOW := Lib.hid hown
            have HGS := Lib.hid hgs
            have HR := Lib.hid hr
            have HGOT := Lib.hid hgot
            have HK := Lib.hid hkp
            have HSZ := Lib.hid hkp.size
            clear hgl hown hgs hr hgot hkp
            by_cases hc : j < l4 ∧ j < 10 ∧ endS s ≠ 0
            · obtain ⟨hc1, hc2, hc3⟩ := hc
              have hjl : j < ks.length := by rw [H4L.out]; exact hc1
              have hd1 : decide ((j : Int) < (l4 : Int)) = true := by simp; omega
              have hd2 : decide ((j : Int) < 10) = true := by simp; omega
              have hd3 : ((endS s : Int) != 0) = true := by rw [bne_iff_ne]; omega
              obtain ⟨ad, rfl, hbs0, hcell0⟩ := src_at (src_below H4S.out (below_own1 HB10.out (Nat.le_refl _) HK.out HG21.out)) hjl
              have hwk : (Lit.int .i64 (ks.getD j 0)).wf = true := by
                rw [List.getD_eq_getElem?_getD, List.getElem?_eq_getElem hjl]
                exact H4W.out _ (List.getElem_mem _)
              generalize ks.getD j 0 = x at hcell0 hwk
              have HWK := Lib.hid hwk
              clear hwk hc3
              go_wp2_with fail
              refine (rdend_any g3 _ s wr HR.out).mono ?_
              rintro e w' ⟨rfl, rfl⟩
              go_wp2_with fail
              refine (around_any x 6 wr (by omega) (by omega) HWK.out).mono ?_
              rintro e w' ⟨rfl, rfl⟩
              have hk6 := aroundI_lt x (n := 6) (by omega)
              obtain ⟨k6, hkk6⟩ : ∃ k, aroundI x 6 = k := ⟨_, rfl⟩
              rw [hkk6] at hk6 ⊢
              have HFIT := Lib.hid (fit_read k6 (by omega) s (HGOT.out.len (by rw [HF2.out]; omega)))
              clear hkk6 hcell0
              go_wp2_with fail
              refine (lread_any k6 g3 _ s wr (by omega) HR.out (fun b hb => Nat.lt_trans hb HR.out.lt)).mono ?_
              rintro e w12 ⟨y1, rfl, hx1, hi1, hr5, hk5⟩
              have HOW5 := Lib.hid (own_kp HOW.out hk5 (fun b hb e => by have := HG22.out; omega))
              have HGS5 := Lib.hid (fun z hz => (⟨(HGS.out z hz).1, (HGS.out z hz).2.kp hk5 (fun b _ h e => by have := HG22.out; have := h.1; omega)⟩ : Fit z.x ∧ z.In w12 (Off w10.heap.size u14)))
              have HKK5 := Lib.hid (HK.out.trans hk5)
              have HR5 := Lib.hid hr5
              have HGOT5 := Lib.hid (HGOT.out.step hx1)
              have HY1 := Lib.hid (show Fit y1.x by rw [hx1]; exact HFIT.out)
              have HYI := Lib.hid (hi1.mono (ok' := Off w10.heap.size u14) (fun b _ h => ⟨by have := HSZ.out; omega, fun e => by have := (HOW.out.lt b e).2; omega⟩))
              obtain ⟨⟨k1, u1, n1, b1, l1⟩, sb1, sl1⟩ := y1
              obtain ⟨hf1, hf2⟩ := hi1
              dsimp only at hf1 hf2
              obtain ⟨a7, c7, rfl⟩ := hf1.form
              obtain ⟨a8, c8, rfl⟩ := hf2.form
              rw [bI_len] at HYI HGOT5 HY1 ⊢
              obtain ⟨q1, hq1⟩ : ∃ q, b1.length = q := ⟨_, rfl⟩
              obtain ⟨q2, hq2⟩ : ∃ q, l1.length = q := ⟨_, rfl⟩
              rw [hq1, hq2] at HYI HGOT5 HY1 ⊢
              rw [show Y.agg ⟨⟨k1, u1, n1, b1, l1⟩, .slice a7 q1 c7, .slice a8 q2 c8⟩ = .agg #[.int .i64 k1, .int .u64 u1, .int .i64 n1, .slice a7 q1 c7, .slice a8 q2 c8] from rfl]
              have HO2 := Lib.hid (show j + 1 ≤ maxLen by unfold maxLen; omega)
              have HO3 := Lib.hid (show (j + 1) * 72 ≤ 140737488355328 by omega)
              have HO4 := Lib.hid (show w10.heap.size ≤ w12.heap.size from Nat.le_trans HSZ.out hk5.size)
              clear hq1 hq2 hf1 hf2 hx1 hr5 hk5
              go_wp2_with (at_builtin; refine wpList_append_own_at _ rfl _ _ 25 rfl w10.heap.size 28 i0 _ 5 72 Try.underlying25 hi0 hz0 hz1 hz2 rfl (by decide) _ _ _ rfl (HOW5.out.alloc _) ⟨w12.heap.size, 0, none⟩ 1 1 [_, _, _, _, _] rfl rfl (five_new _ _ _ _ _ _ _) (five_one rfl rfl rfl rfl rfl) HO2.out HO3.out (alloc_ge HO4.out) ?_; intro v' w13 hown' hgrow _ hat)
              have hba := fun o => (Below.refl w12.heap.size w12).alloc (Nat.le_refl _) o
              obtain ⟨hgl6, hown6, hgs6⟩ := row_app (P := fun y => Fit y.x) HGL.out (fun z hz => ⟨(HGS5.out z hz).1, (HGS5.out z hz).2.new (hba _)⟩) hown' hgrow hat HY1.out (HYI.out.new (hba _)) rfl
              have hk6 : Kp (fun b => w10.heap.size ≤ b) w12 w13 := ((Kp.refl _ w12).alloc _).grown hgrow (fun b hb _ => own_block_ge HOW5.out b hb)
              have HR6 := Lib.hid (HR5.out.kp hk6 (fun e => by have := HG22.out; omega) (fun b _ h e => by have := HG22.out; omega))
              have HK6 := Lib.hid (HKK5.out.step hk6 (fun b h1 h2 => by omega))
              have HG6 := Lib.hid hgl6
              have HO6 := Lib.hid hown6
              have HS6 := Lib.hid hgs6
              clear hown' hgrow hat hba hgl6 hown6 hgs6 hk6

              go_wp2
              go_roundw
              case rel => exact ⟨j + 1, _, _, by omega, by omega, by go_num, HG6.out, HO6.out, HS6.out, HR6.out, HGOT5.out, HK6.out⟩
              case measure => simp [intOf]; omega
            · have hc' : (¬ j < l4) ∨ (j < l4 ∧ ¬ j < 10) ∨ (j < l4 ∧ j < 10 ∧ endS s = 0) := by
                by_cases h1 : j < l4
                · by_cases h2 : j < 10
                  · by_cases h3 : endS s = 0
                    · exact .inr (.inr ⟨h1, h2, h3⟩)
                    · exact absurd ⟨h1, h2, h3⟩ hc
                  · exact .inr (.inl ⟨h1, h2⟩)
                · exact .inl h1
              clear hc
              have HBW := Lib.hid (below_own1 HB10.out (Nat.le_refl _) HK.out HG21.out)
              obtain ⟨a9, c9, rfl⟩ := own_form HOW.out
              rcases hc' with h1 | ⟨h1, h2⟩ | ⟨h1, h2, h3⟩
              case' inl =>
                have hd1 : decide (j < l4) = false := by simp; omega
                go_wp2_with fail
              case' inr.inl =>
                have hd1 : decide (j < l4) = true := by simp; omega
                have hd2 : decide ((j : Int) < 10) = false := by simp; omega
                go_wp2_with fail
              case' inr.inr =>
                have hd1 : decide (j < l4) = true := by simp; omega
                have hd2 : decide ((j : Int) < 10) = true := by simp; omega
                have HE0 := Lib.hid h3
                clear h3
                go_wp2_with fail
                refine (rdend_any g3 _ s wr HR.out).mono ?_
                rw [HE0.out]
                rintro e w' ⟨rfl, rfl⟩
                clear HE0
                go_wp2_with fail
              all_goals
                refine (rdend_any g3 _ s wr HR.out).mono ?_
                rintro e w' ⟨rfl, rfl⟩
                by_cases he : endS s = 0
                case' pos =>
                  have HEQ := Lib.hid (HGOT.out.end_ he)
                  have HVG := Lib.hid (show Vs wr (fun _ => True) (.slice a9 j c9) gs from Vs.own HOW.out HGL.out.symm (fun z hz => (HGS.out z hz).2.mono (fun _ _ _ => trivial)) (fun _ _ _ => trivial))
                  have HIW := Lib.hid (HI10.out.kp HK.out (fun b _ h e => by omega))
                  have HFT := Lib.hid (fun z hz => (HGS.out z hz).1)
                  rw [he]
                  clear he
                  go_wp2_with fail
                  refine (encode_any gs a9 j c9 _ wr HFT.out HGL.out (by omega) HVG.out).mono ?_
                  rintro e w7 ⟨a10, c10, rfl, hown7, hb7⟩
                  rw [← HEQ.out] at hown7 ⊢
                  rw [bI_len, HF2.out] at hown7 ⊢
                  have HI7 := Lib.hid (In.own hown7)
                  have HIW7 := Lib.hid (HIW.out.new hb7)
                  have HB7 := Lib.hid (HBW.out.trans (hb7.mono HBW.out.size))
                  clear hown7 hb7
                  go_wp2_with fail
                  refine (sameBytes_any (bI F2) (bI F2) _ _ L2 L2 _ _ _ _ true w7 (by rw [bI_len, HF2.out]) (by rw [bI_len, HF2.out]) (by omega) (by omega) HI7.out.rd HIW7.out.rd (Nat.le_refl _) (Nat.le_refl _) (by simp)).mono ?_
                  rintro e w14 ⟨rfl, hb14⟩
                  have HB14 := Lib.hid (HB7.out.trans (hb14.mono HB7.out.size))
                  clear hb14 HI7 HIW7 HB7 HEQ HVG HIW HFT HBW
                  go_wp2_with fail
                case' neg =>
                  have hne : ((endS s : Int) != 0) = true := by rw [bne_iff_ne]; omega
                  clear he
                  go_wp2_with fail
                  obtain ⟨w14, rfl⟩ : ∃ W, W = wr := ⟨_, rfl⟩
                  have HB14 := Lib.hid HBW.out
                  clear HBW hne
                all_goals
                  refine (lives_any w14).mono ?_
                  rintro e w15 ⟨rfl, hb15⟩
                  have HB15 := Lib.hid (HB14.out.trans (hb15.mono HB14.out.size))
                  go_wp2
                  go_ret
                  exact ⟨rfl, HB15.out⟩
theorem wireOne_law (a0 : Option Addr) (len0 cap0 : Nat) (z0 : List Int) (a1 : Option Addr) (len1 cap1 : Nat) (z1 : List Int) (a2 a3 : Int) (a4 : Option Addr) (len4 cap4 : Nat) (z4 : List Int) (w : World)
    (w0 : RowI .u8 w a0 len0 cap0 z0) (w1 : RowI .i64 w a1 len1 cap1 z1) (w2 : (Lit.int .i64 a2).wf = true) (w3 : (Lit.int .u8 a3).wf = true) (w4 : RowI .i64 w a4 len4 cap4 z4) :
    Calls Try.prog 6 #[.slice a0 len0 cap0, .slice a1 len1 cap1, .int .i64 a2, .int .u8 a3, .slice a4 len4 cap4] w fun e w' => e = .returned (.bool true) ∧ Below w.heap.size w w' := by
  obtain ⟨cb, rfl⟩ := byte_of_wf w3
  obtain ⟨bl, g1, g2⟩ := w0.bytes
  obtain ⟨ls, h1, h2, h3, h4⟩ := w1.open_
  obtain ⟨ks, k1, k2, k3, k4⟩ := w4.open_
  exact wireOne_walk bl a0 len0 cap0 ls a1 len1 cap1 a2 cb ks a4 len4 cap4 w g1 g2 h1 h2 h3 h4 w2 k1 k2 k3 k4
end Go.Proofs.Ytgcgifjfgmhhmaa
