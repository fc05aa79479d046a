/- The contract of the fifth chapter's examples. -/
import Derived.Test.YtfmccalkfagafaaYFJ
import Derived.Test.YtfmccalkfagafaaYPD
import Derived.Test.YtfmccalkfagafaaYPG
import Derived.Test.YtfmccalkfagafaaYPM
namespace Go.Proofs.Ytfmccalkfagafaa
open Go.RowKit
attribute [local go_sem ↓] Go.wp_at_zero Go.wp_at_succ
theorem sm_lim {x : Int} (h : x.natAbs < 18446744073709551616) : x.natAbs < lim := B2.lim (k := 64) (by have e : B2 64 = 18446744073709551616 := rfl; omega) (by decide)
theorem mid_half {n : Int} (h : n = 1 ∨ n = 3) : mdC 0 1 n 1 = 0 ∧ mdP 0 1 n 1 = n ∧ mdQ 0 1 n 1 = 2 := by
  have hg : adG 1 1 = 1 := rfl
  have hN : adN 0 1 n 1 = n := by unfold adN; rw [hg]; rcases h with rfl | rfl <;> decide
  have hD : adD 1 1 = 1 := by unfold adD; rw [hg]; decide
  have hK : adK 0 1 n 1 := by
    unfold adK
    rw [hN, hD, hg]
    refine ⟨sm_lim (by decide), sm_lim ?_, sm_lim ?_, sm_lim (by decide)⟩ <;> rcases h with rfl | rfl <;> decide
  have hH : adH 0 1 n 1 = 1 := by unfold adH; rw [hN, hg]; rcases h with rfl | rfl <;> rfl
  have e1 : adP 0 1 n 1 = n := by unfold adP; rw [if_pos hK, hN, hH, Int.ediv_one]
  have e2 : adQ 0 1 n 1 = 1 := by unfold adQ; rw [if_pos hK, hD, hH]; rfl
  have e3 : adC 0 1 n 1 = 0 := if_pos hK
  have m1 : mkP 1 2 = 1 ∧ mkQ 1 2 = 2 := ⟨(half_odd 0).1, (half_odd 0).2.1⟩
  have ha : muA n 2 = 1 := by unfold muA; rcases h with rfl | rfl <;> rfl
  have hb : muA 1 1 = 1 := rfl
  have uN : muN n 1 1 2 = n := by unfold muN; rw [ha, hb]; rcases h with rfl | rfl <;> decide
  have uD : muD n 1 1 2 = 2 := by unfold muD; rw [ha, hb]; decide
  have uK : muK n 1 1 2 := by
    unfold muK
    rw [uN, uD]
    refine ⟨sm_lim ?_, sm_lim (by decide)⟩
    rcases h with rfl | rfl <;> decide
  have d1 : dvP n 1 2 1 = n := by unfold dvP; rw [if_neg (by decide), m1.1, m1.2, muP, if_pos uK, uN]
  have d2 : dvQ n 1 2 1 = 2 := by unfold dvQ; rw [if_neg (by decide), m1.1, m1.2, muQ, if_pos uK, uD]
  have d3 : dvC n 1 2 1 = 0 := by unfold dvC; rw [if_neg (by decide), m1.1, m1.2]; exact if_pos uK
  exact ⟨by unfold mdC; rw [if_pos e3, e1, e2, d3], by unfold mdP; rw [if_pos e3, e1, e2, d1], by unfold mdQ; rw [if_pos e3, e1, e2, d2]⟩
theorem me_vals : meX 0 1 1 1 0 1 3 1 = 1 ∧ meXd 0 1 1 1 0 1 3 1 = 2 ∧ meY 0 1 1 1 0 1 3 1 = 3 ∧ meYd 0 1 1 1 0 1 3 1 = 2 ∧ meC 0 1 1 1 0 1 3 1 = 0 := by
  have h1 := mid_half (n := 1) (.inl rfl)
  have h3 := mid_half (n := 3) (.inr rfl)
  have hk : meK 0 1 1 1 0 1 3 1 := ⟨h1.1, h3.1⟩
  exact ⟨by unfold meX; rw [if_pos hk, h1.2.1], by unfold meXd; rw [if_pos hk, h1.2.2], by unfold meY; rw [if_pos hk, h3.2.1], by unfold meYd; rw [if_pos hk, h3.2.2], by unfold meC; rw [if_pos h1.1, h3.1]⟩
theorem t5_1 : decI 1 = [49] := by
  rw [decI, if_neg (by decide), show (1 : Int).natAbs = 1 from rfl, dec_lt (by decide)]
  rfl
theorem t5_2 : decI 2 = [50] := by
  rw [decI, if_neg (by decide), show (2 : Int).natAbs = 2 from rfl, dec_lt (by decide)]
  rfl
theorem t5_3 : decI 3 = [51] := by
  rw [decI, if_neg (by decide), show (3 : Int).natAbs = 3 from rfl, dec_lt (by decide)]
  rfl
theorem t_half : fracT 1 2 = [49, 47, 50] ∧ fracT 3 2 = [51, 47, 50] := by
  unfold fracT
  rw [if_neg (by decide), if_neg (by decide), t5_1, t5_2, t5_3]
  exact ⟨rfl, rfl⟩
theorem rd_vals : rdX 1 2 3 2 = 0 ∧ rdY 1 2 3 2 = 1 ∧ rdE 1 2 3 2 = 0 := by decide
theorem pc_vals : pcV 1 1 5 1 2 1 0 1 = -1 := by decide
set_option maxRecDepth 100000 in
set_option maxHeartbeats 3200000 in
theorem plives_any (w : World) : Calls Try.prog 14 #[] w fun e w' => e = .returned (.bool true) ∧ Below w.heap.size w w' := by
  go_enter Try.func14, Try.ntmps14
  go_wp2_with fail
  refine (pof_any 0 0 w (by decide) (by decide)).mono ?_
  rintro e w1 ⟨s0, A0, n0, c0, t0, B0, m0, d0, s1, A1, n1, c1, t1, B1, m1, d1, rfl, h0, h1, hb1⟩
  have H0 := Lib.hid h0
  have H1 := Lib.hid h1
  have HB1 := Lib.hid hb1
  clear h0 h1 hb1
  go_wp2_with fail
  refine (pof_any 1 3 w1 (by decide) (by decide)).mono ?_
  rintro e w2 ⟨s2, A2, n2, c2, t2, B2, m2, d2, s3, A3, n3, c3, t3, B3, m3, d3, rfl, h0, h1, hb2⟩
  have H2 := Lib.hid h0
  have H3 := Lib.hid h1
  have H02 := Lib.hid (H0.out.new hb2)
  have H12 := Lib.hid (H1.out.new hb2)
  have HB2 := Lib.hid (bt HB1.out hb2)
  clear h0 h1 hb2 H0 H1
  go_wp2_with fail
  refine (pmid_any 0 1 0 1 1 1 3 1 s0 A0 n0 c0 t0 B0 m0 d0 s1 A1 n1 c1 t1 B1 m1 d1 s2 A2 n2 c2 t2 B2 m2 d2 s3 A3 n3 c3 t3 B3 m3 d3 w2 H02.out H12.out H2.out H3.out ⟨⟨⟨by decide, sm_lim (by decide), sm_lim (by decide)⟩, ⟨by decide, sm_lim (by decide), sm_lim (by decide)⟩⟩, ⟨by decide, sm_lim (by decide), sm_lim (by decide)⟩, ⟨by decide, sm_lim (by decide), sm_lim (by decide)⟩⟩).mono ?_
  rw [me_vals.1, me_vals.2.1, me_vals.2.2.1, me_vals.2.2.2.1, me_vals.2.2.2.2]
  clear H02 H12 H2 H3
  rintro e w3 ⟨s4, A4, n4, c4, t4, B4, m4, d4, s5, A5, n5, c5, t5, B5, m5, d5, rfl, h0, h1, hb3⟩
  obtain ⟨x3, hx3⟩ : ∃ z, w3.alloc (.cells #[.bool s4, .slice A4 n4 c4, .bool t4, .slice B4 m4 d4, .bool s5, .slice A5 n5 c5, .bool t5, .slice B5 m5 d5] 33) = z := ⟨_, rfl⟩
  have HK3 := Lib.hid (show Below w3.heap.size w3 x3 by rw [← hx3]; exact (Below.refl _ _).alloc (Nat.le_refl _) _)
  have HQ3 := Lib.hid (show P8 33 x3 w3.heap.size (.bool s4) (.slice A4 n4 c4) (.bool t4) (.slice B4 m4 d4) (.bool s5) (.slice A5 n5 c5) (.bool t5) (.slice B5 m5 d5) by rw [← hx3]; exact P8.lit _ _ _ _ _ _ _ _ _ _)
  have H4 := Lib.hid (h0.new HK3.out)
  have H5 := Lib.hid (h1.new HK3.out)
  have HB3 := Lib.hid (bt HB2.out (bt hb3 HK3.out))
  clear h0 h1 hb3
  obtain ⟨⟨p0, p1, p2, p3⟩, p4, p5, p6, p7⟩ := HQ3.out.cells
  go_wp2_with fail
  clear hx3
  refine (pround_any 1 2 3 2 s4 A4 n4 c4 t4 B4 m4 d4 s5 A5 n5 c5 t5 B5 m5 d5 x3 H4.out H5.out ⟨⟨by decide, sm_lim (by decide), sm_lim (by decide)⟩, ⟨by decide, sm_lim (by decide), sm_lim (by decide)⟩⟩).mono ?_
  rw [rd_vals.1, rd_vals.2.1, rd_vals.2.2]
  rintro e w4 ⟨rfl, hb4⟩
  obtain ⟨x4, hx4⟩ : ∃ z, w4.alloc (.cells #[.int .i64 0, .int .i64 1] 44) = z := ⟨_, rfl⟩
  have HK4 := Lib.hid (show Below w4.heap.size w4 x4 by rw [← hx4]; exact (Below.refl _ _).alloc (Nat.le_refl _) _)
  have HQ4 := Lib.hid (show P2 44 x4 w4.heap.size (.int .i64 0) (.int .i64 1) by rw [← hx4]; exact P2.lit _ _ _ _)
  have HN4 := Lib.hid (bt hb4 HK4.out)
  have HQ34 := Lib.hid (HQ3.out.new HN4.out)
  have H44 := Lib.hid (H4.out.new HN4.out)
  have H54 := Lib.hid (H5.out.new HN4.out)
  have HB4 := Lib.hid (bt HB3.out HN4.out)
  clear hb4 p0 p1 p2 p3 p4 p5 p6 p7 H4 H5 HQ3
  obtain ⟨⟨p0, p1, p2, p3⟩, p4, p5, p6, p7⟩ := HQ34.out.cells
  go_wp2_with fail
  clear hx4
  refine (fstring_any 1 2 s4 t4 A4 B4 n4 c4 m4 d4 x4 H44.out (sm_lim (by decide)) (sm_lim (by decide)) (by decide)).mono ?_
  rw [t_half.1]
  rintro e w5 ⟨rfl, hb5⟩
  have HB5 := Lib.hid (bt HB4.out hb5)
  have HQ35 := Lib.hid (HQ34.out.new hb5)
  have HQ45 := Lib.hid (HQ4.out.new hb5)
  have H55 := Lib.hid (H54.out.new hb5)
  clear hb5 p0 p1 p2 p3 p4 p5 p6 p7
  obtain ⟨⟨p0, p1, p2, p3⟩, p4, p5, p6, p7⟩ := HQ35.out.cells
  go_wp2_with fail
  refine (fstring_any 3 2 s5 t5 A5 B5 n5 c5 m5 d5 w5 H55.out (sm_lim (by decide)) (sm_lim (by decide)) (by decide)).mono ?_
  rw [t_half.2]
  rintro e w6 ⟨rfl, hb6⟩
  have HB6 := Lib.hid (bt HB5.out hb6)
  have HQ46 := Lib.hid (HQ45.out.new hb6)
  clear hb6 p0 p1 p2 p3 p4 p5 p6 p7
  obtain ⟨q0, q1⟩ := HQ46.out.cells
  go_wp2_with fail
  refine (pof_any 1 5 w6 (by decide) (by decide)).mono ?_
  rintro e w7 ⟨s6, A6, n6, c6, t6, B6, m6, d6, s7, A7, n7, c7, t7, B7, m7, d7, rfl, h0, h1, hb7⟩
  have H6 := Lib.hid h0
  have H7 := Lib.hid h1
  have HB7 := Lib.hid (bt HB6.out hb7)
  clear h0 h1 hb7
  go_wp2_with fail
  refine (pof_any 2 0 w7 (by decide) (by decide)).mono ?_
  rintro e w8 ⟨s8, A8, n8, c8, t8, B8, m8, d8, s9, A9, n9, c9, t9, B9, m9, d9, rfl, h0, h1, hb8⟩
  have H8 := Lib.hid h0
  have H9 := Lib.hid h1
  have H68 := Lib.hid (H6.out.new hb8)
  have H78 := Lib.hid (H7.out.new hb8)
  have HB8 := Lib.hid (bt HB7.out hb8)
  clear h0 h1 hb8
  go_wp2_with fail
  refine (ptcompare_any 1 1 5 1 2 1 0 1 s6 A6 n6 c6 t6 B6 m6 d6 s7 A7 n7 c7 t7 B7 m7 d7 s8 A8 n8 c8 t8 B8 m8 d8 s9 A9 n9 c9 t9 B9 m9 d9 w8 H68.out H78.out H8.out H9.out ⟨⟨by decide, sm_lim (by decide), sm_lim (by decide)⟩, ⟨by decide, sm_lim (by decide), sm_lim (by decide)⟩, ⟨by decide, sm_lim (by decide), sm_lim (by decide)⟩, ⟨by decide, sm_lim (by decide), sm_lim (by decide)⟩⟩).mono ?_
  rw [pc_vals]
  rintro e w9 ⟨rfl, hb9⟩
  have HB9 := Lib.hid (bt HB8.out hb9)
  clear hb9
  go_wp2
  go_ret
  exact ⟨rfl, HB9.out⟩
end Go.Proofs.Ytfmccalkfagafaa
