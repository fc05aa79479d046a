/- The walk of WirePrefix: the law returns true for every input; what lay lies as it lay. -/
import Derived.Test.YtgcgifjfgmhhmaaWLaw3
import Derived.Test.YtgcgifjfgmhhmaaBig
namespace Go.Proofs.Ytgcgifjfgmhhmaa
open Go.RowKit

theorem xs_take_succ {ys : List Y} {j : Nat} {y : Y} (h : ys[j]? = some y) : xs (ys.take (j + 1)) = xs (ys.take j) ++ [y.x] := by
  rw [List.take_add_one, h, xs, List.map_append, ← xs]
  rfl
theorem Rdr.drew {T : TypeId} {w : World} {g : Nat} {ok : Nat → Prop} {s : St} (h : Rdr T w g ok s) : Rdr T w.drew g ok s := h
set_option maxHeartbeats 3200000 in
theorem wirePrefix_walk (ls : List Int) (A : Option Addr) (ln c : Nat) (cut : Int) (cb : UInt8) (w : World) (hln : ls.length = ln) (hlm : ln ≤ maxLen) (hwf : ∀ x ∈ ls, (Lit.int .i64 x).wf = true) (hsrc : Src .i64 w (.slice A ln c) ls) (hcut : (Lit.int .i64 cut).wf = true) :
    Calls Try.prog 7 #[.slice A ln c, .int .i64 cut, .int .u8 cb.toNat] w fun e w' => e = .returned (.bool true) ∧ Below w.heap.size w w' := by
  obtain ⟨i0, hi0, hz0, hz1, hz2⟩ := info_parts byte_info
  have HCUT := Lib.hid hcut
  clear hcut
  go_enter Try.func7, Try.ntmps7
  go_wp2_with fail
  refine (vals_any ls A ln c w hln hlm hwf hsrc).mono ?_
  rintro e w1 ⟨a1, c1, zs, rfl, hy8, hown, hys, hb1, _⟩
  obtain ⟨m, hm⟩ : ∃ m, zs.length = m := ⟨_, rfl⟩
  rw [hm] at hy8 hown hys ⊢
  have HZL := Lib.hid hm
  have hvs := Vs.of_rows hown hm.symm hys
  have HSH := Lib.hid (show ∀ y ∈ zs, Short y.x from fun y hy => (hys y hy).1)
  have HVS := Lib.hid hvs
  have HB1 := Lib.hid hb1
  clear hm hys hwf hln hlm hsrc hown hb1 hvs
  go_wp2_with fail
  refine (encode_any zs a1 m c1 _ w1 (fun y hy => (HSH.out y hy).fit) HZL.out (by omega) HVS.out).mono ?_
  rintro e w2 ⟨a2, c2, rfl, hown2, hb2⟩
  have HB2 := Lib.hid (HB1.out.trans (hb2.mono HB1.out.size))
  have HI2 := Lib.hid (In.own hown2).in_lt
  have HVS2 := Lib.hid (HVS.out.new hb2)
  have hlen : (encs (xs zs)).length ≤ 1680 := by have := encs_short HSH.out; have := HZL.out; omega
  obtain ⟨E, hE⟩ : ∃ E, encs (xs zs) = E := ⟨_, rfl⟩
  rw [hE] at HI2 hlen ⊢
  obtain ⟨L, hL⟩ : ∃ L, E.length = L := ⟨_, rfl⟩
  rw [bI_len, hL] at HI2 ⊢
  rw [hL] at hlen
  have HE := Lib.hid hE
  have HL := Lib.hid hL
  clear hE hL hown2 hb2 HB1 HVS
  by_cases h0 : L = 0
  · subst h0
    go_wp2_with fail
    refine (read_new [] none 0 0 (fun _ => True) w2 rfl (by decide) In.nil).mono ?_
    rintro e w3 ⟨⟨g, rfl, hr3, hg3⟩, hb3⟩
    have HB3 := Lib.hid (HB2.out.trans (hb3.mono HB2.out.size))
    have HR3 := Lib.hid hr3
    clear hr3 hg3 hb3
    go_wp2_with fail
    refine (rdend_any g _ _ w3 HR3.out).mono ?_
    rw [show endS ⟨[], 0⟩ = 0 from rfl]
    rintro e w' ⟨rfl, rfl⟩
    go_wp2_with fail
    refine (lives_any w3).mono ?_
    rintro e w5 ⟨rfl, hb5⟩
    have HB5 := Lib.hid (HB3.out.trans (hb5.mono HB3.out.size))
    go_wp2
    go_ret
    exact ⟨rfl, HB5.out⟩
  · have hL1 : 1 ≤ L := by omega
    have hne : ((L : Int) == 0) = false := beq_eq_false_iff_ne.2 (by omega)
    clear h0
    go_wp2_with fail
    refine (around_big cut L w2 hL1 (by omega) HCUT.out).mono ?_
    rintro e w' ⟨rfl, rfl⟩
    have hk := aroundI_lt cut hL1
    obtain ⟨k, hkk⟩ : ∃ k, aroundI cut L = k := ⟨_, rfl⟩
    rw [hkk] at hk ⊢
    obtain ⟨a3, hs3, hi3⟩ := HI2.out.to_ (P := Try.prog) (ty := 24) Try.underlying24 size_byte k (by omega)
    rw [bI_take] at hi3
    have HI3 := Lib.hid hi3
    clear hkk hi3
    go_wp2_with fail
    refine (read_new (E.take k) a3 k c2 _ w2 (by rw [List.length_take, HL.out]; omega) (by omega) HI3.out).mono ?_
    rintro e w3 ⟨⟨g1, rfl, hr3, hg3⟩, hb3⟩
    have HB3 := Lib.hid (HB2.out.trans (hb3.mono HB2.out.size))
    have HR3 := Lib.hid (hr3.mono (ok' := (· < g1)) (fun b _ h => h.2) (fun h => Nat.lt_irrefl _ h))
    have HG1 := Lib.hid (Nat.le_trans HB2.out.size hg3)
    have HL1 := Lib.hid hr3.lt
    have HVS3 := Lib.hid ((HVS2.out.lt.new hb3).mono (ok' := (· < g1)) (fun b _ h => by omega))
    have HI4 := Lib.hid (HI2.out.new hb3)
    clear hr3 hg3 hb3 hs3 HI3 HB2 HVS2 HI2
    go_wp2_with fail
    refine (few_big _ (bI E) L w3 HI4.out.src (by rw [bI_len, HL.out]; unfold maxLen; omega) (by omega)).mono ?_
    rintro e w4 ⟨a4, c4, rfl, hown4, hb4⟩
    rw [List.take_of_length_le (by rw [bI_len, HL.out]; exact Nat.le_refl _), bI_len, HL.out] at hown4 ⊢
    have HB4 := Lib.hid (HB3.out.trans (hb4.mono HB3.out.size))
    have HC4 := Lib.hid hb4
    have HO2 := Lib.hid (show L + 1 ≤ maxLen by unfold maxLen; omega)
    have HO3 := Lib.hid (show (L + 1) * 1 ≤ 140737488355328 by omega)
    have HO4 := Lib.hid hb4.size
    clear hb4
    go_wp2_with (at_builtin; refine wpList_append_own _ rfl _ _ 24 rfl w3.heap.size 5 i0 (.int .u8 0) 1 1 Try.underlying24 hi0 hz0 hz1 hz2 rfl (by decide) _ _ _ rfl (hown4.alloc _) ⟨w4.heap.size, 0, none⟩ 1 1 [_] rfl rfl (cell_one_new _ _ _) (one_cells _ _) HO2.out HO3.out (alloc_ge HO4.out) ?_; intro v' w5 hown' hgrow _; obtain ⟨g', cap', rfl⟩ := ownsRow_succ hown')
    have hb5 : Below w3.heap.size w3 w5 := (HC4.out.alloc HO4.out _).grown hgrow (alloc_ge HO4.out) (own_block_ge hown4)
    have hlong := own_snoc (x := cb) HL.out hown' rfl
    rw [List.length_append, HL.out] at hlong
    have HB5 := Lib.hid (HB3.out.trans (hb5.mono HB3.out.size))
    have HR5 := Lib.hid (HR3.out.new hb5)
    have HVS5 := Lib.hid (HVS3.out.new hb5)
    have HL15 := Lib.hid (Nat.lt_of_lt_of_le HL1.out hb5.size)
    have HI5 := Lib.hid (In.own hlong)
    clear hgrow hown' hlong hown4 hb5 HB4 HB3 HC4 HO2 HO3 HO4 HR3 HVS3 HI4
    go_wp2_with fail
    refine (read_new (E ++ [cb]) _ (L + 1) cap' _ w5 (by rw [List.length_append, HL.out]; rfl) (by omega) HI5.out).mono ?_
    rintro e w6 ⟨⟨g2, rfl, hr6, hg6⟩, hb6⟩
    have HB6 := Lib.hid (HB5.out.trans (hb6.mono HB5.out.size))
    have hg12 : g1 < g2 := Nat.lt_of_lt_of_le HL15.out hg6
    have HS6 := Lib.hid (hr6.mono (ok' := fun b => g1 < b ∧ b < g2) (fun b _ h => ⟨by have := HL15.out; have := h.1; omega, h.2⟩) (fun h => Nat.lt_irrefl _ h.2))
    have HR6 := Lib.hid (HR5.out.new hb6)
    have HVS6 := Lib.hid (HVS5.out.new hb6)
    clear hr6 hg6 hb6 HB5 HR5 HVS5 HI5
    go_wp2_with fail
    go_loopw [12] (fun i wr => ∃ j : Nat, j ≤ m ∧ i = .int .i64 j ∧ Rdr 77 wr g1 (· < g1) (readAll ⟨E.take k, 0⟩ (xs (zs.take j))) ∧ Rdr 77 wr g2 (fun b => g1 < b ∧ b < g2) ⟨encs (xs (zs.drop j)) ++ [cb], 0⟩ ∧ Vs wr (· < g1) (.slice a1 m c1) zs ∧ Below w.heap.size w wr) (fun i _ => m - (intOf i).toNat)
    case atStart => exact ⟨0, by omega, rfl, HR6.out, by rw [List.drop_zero, HE.out]; exact HS6.out, HVS6.out, HB6.out⟩
    case round =>
      obtain ⟨j, hj, rfl, hr, hs, hvs, hb⟩ := hrel
      have HR := Lib.hid hr
      have HS := Lib.hid hs
      have HVV := Lib.hid hvs
      have HBB := Lib.hid hb
      clear hr hs hvs hb
      by_cases hlt : j < m
      · have hjl : j < zs.length := by rw [HZL.out]; exact hlt
        obtain ⟨y, hy⟩ : ∃ y, zs[j]? = some y := ⟨_, List.getElem?_eq_getElem hjl⟩
        obtain ⟨G, rfl, hgg1, hgg2, hyi, hc0, hc1, hc2, hc3, hc4⟩ := HVV.out.at_ hy
        have HD := Lib.hid (encs_drop hy)
        have HX := Lib.hid (xs_take_succ hy)
        have HSY := Lib.hid (HSH.out y (List.mem_of_getElem? hy))
        clear hy hyi hc1 hc2 hc3 hc4
        go_wp2_with fail
        refine (lread_any y.x.k g1 _ _ wr HSY.out.fit.k HR.out (fun b hb => Nat.lt_trans hb HR.out.lt)).mono ?_
        rintro e w7 ⟨y1, rfl, hx1, hi1, hr7, hk7⟩
        have hs7 := HS.out.kp hk7 (fun e => by omega) (fun b _ h e => by omega)
        have HVV7 := Lib.hid (HVV.out.kp hk7 (fun b _ h e => by omega))
        have HB7 := Lib.hid (below_own1 HBB.out (Nat.le_refl _) hk7 HG1.out)
        have hc7 := (hk7.cell (p := ⟨G, j * 5, none⟩) hgg2 (Nat.ne_of_lt hgg1)).trans hc0
        have HR7 := Lib.hid hr7
        have HS7 := Lib.hid hs7
        clear hr7 hs7 hk7 hx1 hi1 hc0
        go_wp2_with fail
        refine (lread_any y.x.k g2 _ _ w7 HSY.out.fit.k HS7.out (fun b hb => Nat.lt_trans hb.2 HS7.out.lt)).mono ?_
        rintro e w8 ⟨y2, rfl, hx2, hi2, hs8, hk8⟩
        rw [HD.out, List.append_assoc, readV_rt HSY.out.good] at hs8
        have HR8 := Lib.hid (HR7.out.kp hk8 (fun e => by omega) (fun b _ h e => by omega))
        have HVV8 := Lib.hid (HVV7.out.kp hk8 (fun b _ h e => by omega))
        have HB8 := Lib.hid (below_own1 HB7.out (Nat.le_refl _) hk8 (Nat.le_trans HG1.out (Nat.le_of_lt hg12)))
        have HS8 := Lib.hid hs8
        clear hs8 hk8 hx2 hi2 hc7
        go_wp2
        go_roundw
        case rel => exact ⟨j + 1, by omega, by go_num, by rw [HX.out, readAll_snoc]; exact HR8.out, HS8.out, HVV8.out, HB8.out⟩
        case measure => simp [intOf]; omega
      · obtain rfl : j = m := by omega
        have hd : zs.drop j = [] := List.drop_of_length_le (by rw [HZL.out]; exact Nat.le_refl _)
        have ht : zs.take j = zs := List.take_of_length_le (by rw [HZL.out]; exact Nat.le_refl _)
        rw [hd] at HS
        rw [ht] at HR
        obtain ⟨st, hst⟩ : ∃ st, readAll ⟨E.take k, 0⟩ (xs zs) = st := ⟨_, rfl⟩
        have hst3 : st.e = 3 := by
          rw [← hst]
          refine readAll_prefix (xs zs) (E.take k) (E.drop k) (fun x hx => ?_) (by rw [List.take_append_drop, HE.out]) (fun e => ?_)
          · obtain ⟨y, hy, rfl⟩ := List.mem_map.1 hx
            exact (HSH.out y hy).good
          · have := congrArg List.length e
            rw [List.length_drop, HL.out] at this
            simp at this
            omega
        rw [hst] at HR
        have HE3 := Lib.hid hst3
        clear hd ht hst hst3
        go_wp2_with fail
        refine (rdend_any g1 _ _ wr HR.out).mono ?_
        rw [show endS st = 3 by rw [endS, HE3.out, if_neg (by decide)]]
        rintro e w' ⟨rfl, rfl⟩
        go_wp2_with fail
        refine (rdend_any g2 _ _ wr HS.out).mono ?_
        rw [show endS ⟨encs (xs []) ++ [cb], 0⟩ = 2 from rfl]
        rintro e w' ⟨rfl, rfl⟩
        go_wp2_with fail
        refine (around_any cut 6 wr (by omega) (by omega) HCUT.out).mono ?_
        rintro e w' ⟨rfl, rfl⟩
        have hk6 := aroundI_lt cut (n := 6) (by omega)
        obtain ⟨k6, hkk6⟩ : ∃ k, aroundI cut 6 = k := ⟨_, rfl⟩
        rw [hkk6] at hk6 ⊢
        clear hkk6
        go_wp2_with fail
        refine (lread_any k6 g1 _ _ wr (by omega) HR.out (fun b hb => Nat.lt_trans hb HR.out.lt)).mono ?_
        rintro e w7 ⟨y1, rfl, hx1, hi1, hr7, hk7⟩
        rw [readV_err k6 (by rw [HE3.out]; decide)] at hx1 hr7
        have HB7 := Lib.hid (below_own1 HBB.out (Nat.le_refl _) hk7 HG1.out)
        have HR7 := Lib.hid hr7
        obtain ⟨y1x, sb', sl'⟩ := y1
        dsimp only at hx1
        subst hx1
        obtain ⟨hb1, hb2⟩ := hi1
        dsimp only at hb1 hb2
        obtain ⟨a7, c7, rfl⟩ := hb1.form
        obtain ⟨a8, c8, rfl⟩ := hb2.form
        rw [show (bI []).length = 0 from rfl] at hb1 ⊢
        rw [show ([] : List Int).length = 0 from rfl] at hb2 ⊢
        rw [show Y.agg ⟨⟨k6, 0, 0, [], []⟩, .slice a7 0 c7, .slice a8 0 c8⟩ = .agg #[.int .i64 k6, .int .u64 0, .int .i64 0, .slice a7 0 c7, .slice a8 0 c8] from rfl]
        have HI1 := Lib.hid hb1
        have HI2 := Lib.hid hb2
        clear hr7 hk7 hb1 hb2
        go_wp2_with fail
        have hbo := (Below.refl w7.heap.size w7).alloc (Nat.le_refl _) (.cells #[.int .i64 k6, .int .u64 0, .int .i64 0, .slice a7 0 c7, .slice a8 0 c8] 28)
        refine (same_true ⟨⟨k6, 0, 0, [], []⟩, .slice a7 0 c7, .slice a8 0 c8⟩ ⟨⟨k6, 0, 0, [], []⟩, .slice none 0 0, .slice none 0 0⟩ _ (fun _ => True) _ rfl ⟨HI1.out.new hbo, HI2.out.new hbo⟩ ⟨In.nil, In.nil⟩ (by simp) (by simp)).mono ?_
        rintro e w8 ⟨rfl, hb8⟩
        have hb78 := hbo.trans (hb8.mono hbo.size)
        have HB8 := Lib.hid (HB7.out.trans (hb78.mono HB7.out.size))
        have HR8 := Lib.hid (HR7.out.new hb78)
        clear hbo hb8 hb78 HB7 HR7 HI1 HI2
        go_wp2_with fail
        refine (rdend_any g1 _ _ w8 HR8.out).mono ?_
        rw [show endS st = 3 by rw [endS, HE3.out, if_neg (by decide)]]
        rintro e w' ⟨rfl, rfl⟩
        go_wp2_with fail
        refine (lives_any w8).mono ?_
        rintro e w9 ⟨rfl, hb9⟩
        have HB9 := Lib.hid (HB8.out.trans (hb9.mono HB8.out.size))
        go_wp2
        go_ret
        exact ⟨rfl, HB9.out⟩
theorem byte_of_wf {v : Int} (h : (Lit.int .u8 v).wf = true) : ∃ c : UInt8, v = (c.toNat : Int) := by
  have hb : 0 ≤ v ∧ v ≤ 255 := by simpa [Lit.wf, IntKind.min, IntKind.max, IntKind.signed, IntKind.bits] using h
  refine ⟨UInt8.ofNat v.toNat, ?_⟩
  rw [UInt8.toNat_ofNat']
  omega
theorem wirePrefix_law (a0 : Option Addr) (len0 cap0 : Nat) (z0 : List Int) (a1 a2 : Int) (w : World) (w0 : RowI .i64 w a0 len0 cap0 z0) (w1 : (Lit.int .i64 a1).wf = true) (w2 : (Lit.int .u8 a2).wf = true) :
    Calls Try.prog 7 #[.slice a0 len0 cap0, .int .i64 a1, .int .u8 a2] w fun e w' => e = .returned (.bool true) ∧ Below w.heap.size w w' := by
  obtain ⟨cb, rfl⟩ := byte_of_wf w2
  obtain ⟨ls, h1, h2, h3, h4⟩ := w0.open_
  exact wirePrefix_walk ls a0 len0 cap0 a1 cb w h1 h2 h3 h4 w1
end Go.Proofs.Ytgcgifjfgmhhmaa
