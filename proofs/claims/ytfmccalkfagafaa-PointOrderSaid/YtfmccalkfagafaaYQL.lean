/- The contracts of the reference's Mid and of the law's same; middles of points. Conditions: as each statement has them. -/
import Derived.Test.YtfmccalkfagafaaYQK
import Derived.Test.YtfmccalkfagafaaYFJ
import Derived.Test.YtfmccalkfagafaaYPM
namespace Go.Proofs.Ytfmccalkfagafaa
open Go.RowKit
attribute [local go_sem ↓] Go.wp_at_zero Go.wp_at_succ
theorem scale_mk {g x d : Int} (hg : 0 < g) (hd : 0 < d) : mkP (g * x) (g * d) = mkP x d ∧ mkQ (g * x) (g * d) = mkQ x d := by
  obtain ⟨h1, h2⟩ := mk_low x d hd
  obtain ⟨e1, e2⟩ := low_mk (x := g * x) (d := g * d) h1 (Int.mul_pos hg hd) (by rw [Int.mul_left_comm, h2, Int.mul_assoc])
  exact ⟨e1.symm, e2.symm⟩
theorem mkR_mk {x y d X Y D : Int} (h : MkR x y d X Y D) (hD : 0 < D) : (mkP x d = mkP X D ∧ mkQ x d = mkQ X D) ∧ mkP y d = mkP Y D ∧ mkQ y d = mkQ Y D := by
  obtain ⟨g, hg, rfl, rfl, rfl, _⟩ := h
  exact ⟨scale_mk hg hD, scale_mk hg hD⟩
theorem h18 (x : Int) (h : x.natAbs < 18446744073709551616) : x.natAbs < lim := sm_lim h
/-- The middle of two coordinates. -/
theorem md_pt {X D X' D' : Int} (hD : 0 < D) (hD' : 0 < D') (h1 : X.natAbs ≤ 400) (h2 : D.natAbs ≤ 12) (h3 : X'.natAbs ≤ 400) (h4 : D'.natAbs ≤ 12) : mdC (mkP X D) (mkQ X D) (mkP X' D') (mkQ X' D') = 0 ∧ mdP (mkP X D) (mkQ X D) (mkP X' D') (mkQ X' D') = mkP (X * D' + X' * D) (2 * (D * D')) ∧ mdQ (mkP X D) (mkQ X D) (mkP X' D') (mkQ X' D') = mkQ (X * D' + X' * D) (2 * (D * D')) := by
  obtain ⟨l1, e1⟩ := mk_low X D hD
  obtain ⟨l2, e2⟩ := mk_low X' D' hD'
  have b1 := mk_bound (x := X) hD
  have b2 := mk_bound (x := X') hD'
  obtain ⟨m1, m2, m3⟩ := md_low h18 l1 l2 (by omega) (by omega) (by omega) (by omega)
  obtain ⟨p, hp⟩ : ∃ p, mkP X D = p := ⟨_, rfl⟩
  obtain ⟨q, hq⟩ : ∃ p, mkQ X D = p := ⟨_, rfl⟩
  obtain ⟨r, hr⟩ : ∃ p, mkP X' D' = p := ⟨_, rfl⟩
  obtain ⟨s, hs⟩ : ∃ p, mkQ X' D' = p := ⟨_, rfl⟩
  rw [hp, hq] at l1 e1
  rw [hr, hs] at l2 e2
  rw [hp, hq, hr, hs] at m1 m2 m3
  rw [hp, hq, hr, hs]
  refine ⟨m1, ?_⟩
  rw [m2, m3]
  have hqs : 0 < q * s := Int.mul_pos l1.1 l2.1
  obtain ⟨l3, e3⟩ := mk_low (p * s + r * q) (2 * (q * s)) (by omega)
  have hdd : 0 < D * D' := Int.mul_pos hD hD'
  obtain ⟨P, hP⟩ : ∃ z, mkP (p * s + r * q) (2 * (q * s)) = z := ⟨_, rfl⟩
  obtain ⟨Q, hQ⟩ : ∃ z, mkQ (p * s + r * q) (2 * (q * s)) = z := ⟨_, rfl⟩
  rw [hP, hQ] at l3 e3
  rw [hP, hQ]
  refine low_mk l3 (by omega) ?_
  refine Int.eq_of_mul_eq_mul_right (show q * s ≠ 0 by omega) ?_
  clear hP hQ hp hq hr hs b1 b2 m1 m2 m3 h1 h2 h3 h4 l1 l2 l3
  have k1 : (p * s + r * q) * (D * D') = (X * D' + X' * D) * (q * s) := by
    rw [Int.add_mul, Int.add_mul]
    have a1 : p * s * (D * D') = X * D' * (q * s) := by
      calc p * s * (D * D') = p * D * (s * D') := by ac_rfl
        _ = X * D' * (q * s) := by rw [e1]; ac_rfl
    have a2 : r * q * (D * D') = X' * D * (q * s) := by
      calc r * q * (D * D') = r * D' * (q * D) := by ac_rfl
        _ = X' * D * (q * s) := by rw [e2]; ac_rfl
    rw [a1, a2]
  calc P * (2 * (D * D')) * (q * s) = P * (2 * (q * s)) * (D * D') := by ac_rfl
    _ = (p * s + r * q) * (D * D') * Q := by rw [e3]; ac_rfl
    _ = (X * D' + X' * D) * Q * (q * s) := by rw [k1]; ac_rfl
theorem pc_rc {X Y D X' Y' D' : Int} (hD : 0 < D) (hD' : 0 < D') : pcV (mkP X D) (mkQ X D) (mkP Y D) (mkQ Y D) (mkP X' D') (mkQ X' D') (mkP Y' D') (mkQ Y' D') = rcV X Y D X' Y' D' := by
  obtain ⟨l1, e1⟩ := mk_low X D hD
  obtain ⟨l2, e2⟩ := mk_low Y D hD
  obtain ⟨l3, e3⟩ := mk_low X' D' hD'
  obtain ⟨l4, e4⟩ := mk_low Y' D' hD'
  unfold pcV rcV
  rw [cmp_low l1.1 l3.1 hD hD' e1 e3, cmp_low l2.1 l4.1 hD hD' e2 e4]
theorem rc_left {X Y D X' Y' D' : Int} (hD : 0 < D) : rcV X Y D (X * D' + X' * D) (Y * D' + Y' * D) (2 * (D * D')) = rcV X Y D X' Y' D' := by
  unfold rcV
  rw [mid_left hD, mid_left hD]
theorem rc_right {X Y D X' Y' D' : Int} (hD' : 0 < D') : rcV (X * D' + X' * D) (Y * D' + Y' * D) (2 * (D * D')) X' Y' D' = rcV X Y D X' Y' D' := by
  unfold rcV
  rw [mid_right hD', mid_right hD']
theorem pc_eq (p q u v : Int) : pcV p q u v p q u v = 0 := by
  unfold pcV
  rw [cmpI_same rfl, if_pos rfl, cmpI_same rfl]
/-- The difference to the nearest integer is at least -1/2 and less than 1/2. -/
theorem sub_half {n m s : Int} (h : Low m s) (hn : n = -((s - 2 * m) / (2 * s))) (hm : m.natAbs ≤ 60000) (hs : s.natAbs ≤ 60000) (hb : n.natAbs ≤ 60000) : adC n 1 (-m) s = 0 ∧ cmpI (adP n 1 (-m) s * 2) (1 * adQ n 1 (-m) s) = -1 ∧ 0 ≤ cmpI (adP n 1 (-m) s * 2) (-1 * adQ n 1 (-m) s) := by
  have hK := ad_small (k := 60000) (p := n) (q := 1) (r := -m) (s := s) (by decide) h18 (by decide) h.1 hb (by decide) (by omega) hs
  have hl : Low (-m) s := ⟨h.1, by rw [Int.natAbs_neg]; exact h.2⟩
  obtain ⟨h1, h2⟩ := ad_low (low_one n) hl hK
  obtain ⟨c1, c2⟩ := near_bounds (p := m) h.1
  rw [← hn] at c1 c2
  obtain ⟨P, hP⟩ : ∃ z, adP n 1 (-m) s = z := ⟨_, rfl⟩
  obtain ⟨Q, hQ⟩ : ∃ z, adQ n 1 (-m) s = z := ⟨_, rfl⟩
  rw [hP, hQ] at h1 h2
  rw [hP, hQ]
  have hQ0 := h1.1
  have hs0 := h.1
  clear hn hP hQ h1 hl
  obtain ⟨T, hT⟩ : ∃ T, 2 * n * s - 2 * m = T := ⟨_, rfl⟩
  have h3 : P * 2 * s = T * Q := by
    have h4 : P * s = (n * s + -m) * Q := by
      have := h2
      rw [Int.one_mul, Int.mul_one] at this
      exact this
    have h5 : P * 2 * s = 2 * (P * s) := by ac_rfl
    have h6 : T * Q = 2 * ((n * s + -m) * Q) := by
      rw [← hT, show 2 * n * s - 2 * m = 2 * (n * s + -m) by rw [Int.mul_add, Int.mul_assoc]; omega, Int.mul_assoc]
    rw [h5, h6, h4]
  rw [hT] at c1 c2
  refine ⟨if_pos hK, ?_, ?_⟩
  · refine cmpI_less ?_
    rw [Int.one_mul]
    refine Int.lt_of_mul_lt_mul_right (a := s) ?_ (by omega)
    rw [h3, Int.mul_comm Q s]
    exact Int.mul_lt_mul_of_pos_right c1 hQ0
  · have hle : -1 * Q ≤ P * 2 := by
      refine Int.le_of_mul_le_mul_right (show -1 * Q * s ≤ P * 2 * s from ?_) hs0
      rw [h3, show -1 * Q * s = -s * Q by rw [Int.neg_one_mul, Int.neg_mul, Int.neg_mul, Int.mul_comm]]
      exact Int.mul_le_mul_of_nonneg_right c2 (by omega)
    unfold cmpI
    split
    · omega
    · split <;> omega
set_option maxRecDepth 100000 in
set_option maxHeartbeats 6400000 in
theorem rmid_any (X Y D X' Y' D' : Int) (w : World) (h : Sb X Y D) (h' : Sb X' Y' D') :
    Calls Try.prog 23 #[.agg #[.int .i64 X, .int .i64 Y, .int .i64 D], .agg #[.int .i64 X', .int .i64 Y', .int .i64 D']] w fun e w' => ∃ A B C : Int, e = .returned (.agg #[.int .i64 A, .int .i64 B, .int .i64 C]) ∧ MkR (X * D' + X' * D) (Y * D' + Y' * D) (2 * (D * D')) A B C ∧ 0 < C ∧ Below w.heap.size w w' := by
  obtain ⟨⟨d0, d1⟩, ⟨x0, x1⟩, y0, y1⟩ := h
  obtain ⟨⟨d0', d1'⟩, ⟨x0', x1'⟩, y0', y1'⟩ := h'
  have m1 := mul_in (show X.natAbs ≤ 400 by omega) (show D'.natAbs ≤ 12 by omega)
  have m2 := mul_in (show X'.natAbs ≤ 400 by omega) (show D.natAbs ≤ 12 by omega)
  have m3 := mul_in (show Y.natAbs ≤ 400 by omega) (show D'.natAbs ≤ 12 by omega)
  have m4 := mul_in (show Y'.natAbs ≤ 400 by omega) (show D.natAbs ≤ 12 by omega)
  have m5 := mul_in (show D.natAbs ≤ 12 by omega) (show D'.natAbs ≤ 12 by omega)
  have m6 : 0 < D * D' := Int.mul_pos d0 d0'
  have m7 : 2 * D * D' = 2 * (D * D') := Int.mul_assoc _ _ _
  have e1 : IntKind.i64.wrap (X * D') = X * D' := IntWalk.i64_in _ (by omega)
  have e2 : IntKind.i64.wrap (X' * D) = X' * D := IntWalk.i64_in _ (by omega)
  have e3 : IntKind.i64.wrap (Y * D') = Y * D' := IntWalk.i64_in _ (by omega)
  have e4 : IntKind.i64.wrap (Y' * D) = Y' * D := IntWalk.i64_in _ (by omega)
  have e5 : IntKind.i64.wrap (X * D' + X' * D) = X * D' + X' * D := IntWalk.i64_in _ (by omega)
  have e6 : IntKind.i64.wrap (Y * D' + Y' * D) = Y * D' + Y' * D := IntWalk.i64_in _ (by omega)
  have e7 : IntKind.i64.wrap (2 * D) = 2 * D := IntWalk.i64_in _ (by omega)
  have e8 : IntKind.i64.wrap (2 * D * D') = 2 * D * D' := IntWalk.i64_in _ (by omega)
  have HM := Lib.hid (show 0 < 2 * (D * D') ∧ (-1099511627776 ≤ X * D' + X' * D ∧ X * D' + X' * D ≤ 1099511627776) ∧ (-1099511627776 ≤ Y * D' + Y' * D ∧ Y * D' + Y' * D ≤ 1099511627776) ∧ (-1099511627776 ≤ 2 * (D * D') ∧ 2 * (D * D') ≤ 1099511627776) from ⟨by omega, by omega, by omega, by omega⟩)
  have M7 := Lib.hid m7
  clear m1 m2 m3 m4 m5 m6 m7 d0 d1 x0 x1 y0 y1 d0' d1' x0' x1' y0' y1'
  obtain ⟨W, hW⟩ : ∃ W, ((w.alloc (.cells #[.int .i64 X, .int .i64 Y, .int .i64 D] 23)).alloc (.cells #[.int .i64 X', .int .i64 Y', .int .i64 D'] 23)).alloc (.cells #[.int .i64 0, .int .i64 0, .int .i64 0] 23) = W := ⟨_, rfl⟩
  have hw1 := (Below.refl w.heap.size w).alloc (Nat.le_refl _) (.cells #[.int .i64 X, .int .i64 Y, .int .i64 D] 23)
  have hw2 := hw1.alloc hw1.size (.cells #[.int .i64 X', .int .i64 Y', .int .i64 D'] 23)
  have HK := Lib.hid (show Below w.heap.size w W by rw [← hW]; exact hw2.alloc hw2.size _)
  have HA := Lib.hid (show P3 23 W w.heap.size (.int .i64 X) (.int .i64 Y) (.int .i64 D) by rw [← hW]; exact ((P3.lit w _ _ _ _).new ((Below.refl _ _).alloc (Nat.le_refl _) _)).new ((Below.refl _ _).alloc (Nat.le_refl _) _))
  have HB := Lib.hid (show P3 23 W (w.heap.size + 1) (.int .i64 X') (.int .i64 Y') (.int .i64 D') by
    rw [← hW]
    have h0 := (P3.lit (w.alloc (.cells #[.int .i64 X, .int .i64 Y, .int .i64 D] 23)) 23 (.int .i64 X') (.int .i64 Y') (.int .i64 D')).new ((Below.refl _ _).alloc (Nat.le_refl _) (.cells #[.int .i64 0, .int .i64 0, .int .i64 0] 23))
    simp only [World.size_alloc] at h0
    exact h0)
  have HZ := Lib.hid (show P3 23 W (w.heap.size + 1 + 1) (.int .i64 0) (.int .i64 0) (.int .i64 0) by
    rw [← hW]
    have h0 := P3.lit ((w.alloc (.cells #[.int .i64 X, .int .i64 Y, .int .i64 D] 23)).alloc (.cells #[.int .i64 X', .int .i64 Y', .int .i64 D'] 23)) 23 (.int .i64 0) (.int .i64 0) (.int .i64 0)
    simp only [World.size_alloc] at h0
    exact h0)
  clear hw1 hw2
  obtain ⟨a0, a1, a2⟩ := HA.out.cells
  obtain ⟨b0, b1, b2⟩ := HB.out.cells
  go_enter Try.func23, Try.ntmps23
  go_wp2_with fail
  clear hW
  rw [M7.out]
  refine (make_any (X * D' + X' * D) (Y * D' + Y' * D) (2 * (D * D')) W HM.out.1 HM.out.2.1 HM.out.2.2.1 HM.out.2.2.2).mono ?_
  rintro e w1 ⟨A, B, C, rfl, hmk, hc, hb⟩
  have HMK := Lib.hid (And.intro hmk hc)
  have HZ1 := Lib.hid (HZ.out.new hb)
  have HB1 := Lib.hid (bt HK.out hb)
  clear hmk hc hb a0 a1 a2 b0 b1 b2 e1 e2 e3 e4 e5 e6 e7 e8
  obtain ⟨z0, z1, z2⟩ := HZ1.out.cells
  have f0 := HZ1.out.frozen 0
  have f1 := HZ1.out.frozen 1
  have f2 := HZ1.out.frozen 2
  go_wp2_with fail
  exact bodyPost_ret (results_cell_row rfl _ _ _ _ _ _ _ rfl (HZ1.out.all (.int .i64 A) (.int .i64 B) (.int .i64 C)) Try.underlying23 rfl R_size) rfl ⟨A, B, C, rfl, HMK.out.1, HMK.out.2, below_box3 HB1.out (by omega) _ _ _⟩
set_option maxRecDepth 100000 in
set_option maxHeartbeats 6400000 in
theorem same_any (A B C : Int) (s0 : Bool) (A0 : Option Addr) (n0 c0 : Nat) (t0 : Bool) (B0 : Option Addr) (m0 d0 : Nat) (s1 : Bool) (A1 : Option Addr) (n1 c1 : Nat) (t1 : Bool) (B1 : Option Addr) (m1 d1 : Nat) (w : World) (h0 : PF w s0 A0 n0 c0 t0 B0 m0 d0 (mkP A C) (mkQ A C)) (h1 : PF w s1 A1 n1 c1 t1 B1 m1 d1 (mkP B C) (mkQ B C)) (hm : Md A B C) :
    Calls Try.prog 22 #[.agg #[.bool s0, .slice A0 n0 c0, .bool t0, .slice B0 m0 d0, .bool s1, .slice A1 n1 c1, .bool t1, .slice B1 m1 d1], .agg #[.int .i64 A, .int .i64 B, .int .i64 C]] w fun e w' => e = .returned (.bool true) ∧ Below w.heap.size w w' := by
  have HMD := Lib.hid hm
  clear hm
  obtain ⟨W, hW⟩ : ∃ W, (w.alloc (.cells #[.bool s0, .slice A0 n0 c0, .bool t0, .slice B0 m0 d0, .bool s1, .slice A1 n1 c1, .bool t1, .slice B1 m1 d1] 33)).alloc (.cells #[.int .i64 A, .int .i64 B, .int .i64 C] 23) = W := ⟨_, rfl⟩
  have HK := Lib.hid (show Below w.heap.size w W by rw [← hW]; exact ((Below.refl _ w).alloc (Nat.le_refl _) _).alloc (by simp) _)
  have HA := Lib.hid (show P8 33 W w.heap.size (.bool s0) (.slice A0 n0 c0) (.bool t0) (.slice B0 m0 d0) (.bool s1) (.slice A1 n1 c1) (.bool t1) (.slice B1 m1 d1) by rw [← hW]; exact (P8.lit w _ _ _ _ _ _ _ _ _).new ((Below.refl _ _).alloc (Nat.le_refl _) _))
  have HB := Lib.hid (show P3 23 W (w.heap.size + 1) (.int .i64 A) (.int .i64 B) (.int .i64 C) by
    rw [← hW]
    have h0 := P3.lit (w.alloc (.cells #[.bool s0, .slice A0 n0 c0, .bool t0, .slice B0 m0 d0, .bool s1, .slice A1 n1 c1, .bool t1, .slice B1 m1 d1] 33)) 23 (.int .i64 A) (.int .i64 B) (.int .i64 C)
    rw [World.size_alloc] at h0
    exact h0)
  have H0 := Lib.hid (h0.new HK.out)
  have H1 := Lib.hid (h1.new HK.out)
  clear h0 h1
  obtain ⟨h, hh⟩ : ∃ h, w.heap.size = h := ⟨_, rfl⟩
  rw [hh] at HA HB
  obtain ⟨b0, b1, b2⟩ := HB.out.cells
  go_enter Try.func22, Try.ntmps22
  go_wp2_with fail
  clear hW hh
  refine (real_any A B C W (md_wf HMD.out).1 (md_wf HMD.out).2.1 (md_wf HMD.out).2.2).mono ?_
  rintro e w1 ⟨s2, A2, n2, c2, t2, B2, m2, d2, s3, A3, n3, c3, t3, B3, m3, d3, rfl, hr2, hr3, hb1⟩
  obtain ⟨w2, hw2⟩ : ∃ z, w1.alloc (.cells #[.bool s2, .slice A2 n2 c2, .bool t2, .slice B2 m2 d2, .bool s3, .slice A3 n3 c3, .bool t3, .slice B3 m3 d3] 33) = z := ⟨_, rfl⟩
  have HN2 := Lib.hid (show Below w1.heap.size w1 w2 by rw [← hw2]; exact (Below.refl _ _).alloc (Nat.le_refl _) _)
  have HQ := Lib.hid (show P8 33 w2 w1.heap.size (.bool s2) (.slice A2 n2 c2) (.bool t2) (.slice B2 m2 d2) (.bool s3) (.slice A3 n3 c3) (.bool t3) (.slice B3 m3 d3) by rw [← hw2]; exact P8.lit _ _ _ _ _ _ _ _ _ _)
  have HNN := Lib.hid (bt hb1 HN2.out)
  have H2 := Lib.hid (hr2.new HN2.out)
  have H3 := Lib.hid (hr3.new HN2.out)
  have H0b := Lib.hid (H0.out.new HNN.out)
  have H1b := Lib.hid (H1.out.new HNN.out)
  have HAb := Lib.hid (HA.out.new HNN.out)
  have HKb := Lib.hid (bt HK.out HNN.out)
  obtain ⟨q, hq⟩ : ∃ g, w1.heap.size = g := ⟨_, rfl⟩
  rw [hq] at HQ
  clear hr2 hr3 hb1 b0 b1 b2 H0 H1 HA HB HK
  go_wp2_with fail
  clear hw2 hq
  have HS : Hid (∀ w', Below w2.heap.size w2 w' → (fun w' : World => w'.cell? ⟨h, 0, none⟩ = some (.bool s0) ∧ w'.cell? ⟨h, 1, none⟩ = some (.slice A0 n0 c0) ∧ w'.cell? ⟨h, 2, none⟩ = some (.bool t0) ∧ w'.cell? ⟨h, 3, none⟩ = some (.slice B0 m0 d0) ∧ w'.cell? ⟨h, 4, none⟩ = some (.bool s1) ∧ w'.cell? ⟨h, 5, none⟩ = some (.slice A1 n1 c1) ∧ w'.cell? ⟨h, 6, none⟩ = some (.bool t1) ∧ w'.cell? ⟨h, 7, none⟩ = some (.slice B1 m1 d1) ∧ w'.cell? ⟨q, 0, none⟩ = some (.bool s2) ∧ w'.cell? ⟨q, 1, none⟩ = some (.slice A2 n2 c2) ∧ w'.cell? ⟨q, 2, none⟩ = some (.bool t2) ∧ w'.cell? ⟨q, 3, none⟩ = some (.slice B2 m2 d2) ∧ w'.cell? ⟨q, 4, none⟩ = some (.bool s3) ∧ w'.cell? ⟨q, 5, none⟩ = some (.slice A3 n3 c3) ∧ w'.cell? ⟨q, 6, none⟩ = some (.bool t3) ∧ w'.cell? ⟨q, 7, none⟩ = some (.slice B3 m3 d3) ∧ Below w2.heap.size w2 w') w') := Lib.hid (fun w' hb => ⟨(HAb.out.new hb).cells.1.1, (HAb.out.new hb).cells.1.2.1, (HAb.out.new hb).cells.1.2.2.1, (HAb.out.new hb).cells.1.2.2.2, (HAb.out.new hb).cells.2.1, (HAb.out.new hb).cells.2.2.1, (HAb.out.new hb).cells.2.2.2.1, (HAb.out.new hb).cells.2.2.2.2, (HQ.out.new hb).cells.1.1, (HQ.out.new hb).cells.1.2.1, (HQ.out.new hb).cells.1.2.2.1, (HQ.out.new hb).cells.1.2.2.2, (HQ.out.new hb).cells.2.1, (HQ.out.new hb).cells.2.2.1, (HQ.out.new hb).cells.2.2.2.1, (HQ.out.new hb).cells.2.2.2.2, hb⟩)
  have HXX := Lib.hid (Below.refl w2.heap.size w2)
  obtain ⟨v0, hv0⟩ : ∃ z, World.drew w2 = z := ⟨_, rfl⟩
  have HD0 := Lib.hid (show Below w2.heap.size w2 v0 by rw [← hv0]; exact (Below.refl _ _).drew)
  have HX_0 := Lib.hid (bt HXX.out HD0.out)
  have F0_0 := Lib.hid ((H0b.out).new HD0.out)
  have F1_0 := Lib.hid ((H1b.out).new HD0.out)
  have F2_0 := Lib.hid ((H2.out).new HD0.out)
  have F3_0 := Lib.hid ((H3.out).new HD0.out)
  refine wp_region_held_drew (S := (fun w' : World => w'.cell? ⟨h, 0, none⟩ = some (.bool s0) ∧ w'.cell? ⟨h, 1, none⟩ = some (.slice A0 n0 c0) ∧ w'.cell? ⟨h, 2, none⟩ = some (.bool t0) ∧ w'.cell? ⟨h, 3, none⟩ = some (.slice B0 m0 d0) ∧ w'.cell? ⟨h, 4, none⟩ = some (.bool s1) ∧ w'.cell? ⟨h, 5, none⟩ = some (.slice A1 n1 c1) ∧ w'.cell? ⟨h, 6, none⟩ = some (.bool t1) ∧ w'.cell? ⟨h, 7, none⟩ = some (.slice B1 m1 d1) ∧ w'.cell? ⟨q, 0, none⟩ = some (.bool s2) ∧ w'.cell? ⟨q, 1, none⟩ = some (.slice A2 n2 c2) ∧ w'.cell? ⟨q, 2, none⟩ = some (.bool t2) ∧ w'.cell? ⟨q, 3, none⟩ = some (.slice B2 m2 d2) ∧ w'.cell? ⟨q, 4, none⟩ = some (.bool s3) ∧ w'.cell? ⟨q, 5, none⟩ = some (.slice A3 n3 c3) ∧ w'.cell? ⟨q, 6, none⟩ = some (.bool t3) ∧ w'.cell? ⟨q, 7, none⟩ = some (.slice B3 m3 d3) ∧ Below w2.heap.size w2 w')) (by kernel_rfl) ?_ (fun hHeld => ?_)
  · rw [hv0]
    exact HS.out _ HX_0.out
  rw [hv0] at hHeld ⊢
  clear hv0 HD0
  refine wpAnyH_take (i := 0) (v := ?_) rfl (by kernel_rfl) (by kernel_rfl) (by kernel_rfl) (fun _ _ _ h => h) (Or.inl ⟨by kernel_rfl, ?_⟩) (by assumption) ?_
  rotate_left
  · intro w hSw
    (try dsimp only at hSw)
    go_simp
    all_goals (with_reducible rfl)
  try simp only [Act.put, List.getElem_toArray, List.getElem_cons_zero, List.setIfInBounds_toArray, List.set_cons_zero, List.set_cons_succ]
  refine wpAnyH_take (i := 1) (v := ?_) rfl (by kernel_rfl) (by kernel_rfl) (by kernel_rfl) (fun _ _ _ h => h) (Or.inl ⟨by kernel_rfl, ?_⟩) (by assumption) ?_
  rotate_left
  · intro w hSw
    (try dsimp only at hSw)
    go_simp
    all_goals (with_reducible rfl)
  try simp only [Act.put, List.getElem_toArray, List.getElem_cons_zero, List.getElem_cons_succ, List.setIfInBounds_toArray, List.set_cons_zero, List.set_cons_succ]
  refine wpAnyH_take (i := 3) (v := ?_) rfl (by kernel_rfl) (by kernel_rfl) (by kernel_rfl) (fun _ _ _ h => h) (Or.inl ⟨by kernel_rfl, ?_⟩) (by assumption) ?_
  rotate_left
  · intro w hSw
    (try dsimp only at hSw)
    go_simp
    all_goals (with_reducible rfl)
  try simp only [Act.put, List.getElem_toArray, List.getElem_cons_zero, List.getElem_cons_succ, List.setIfInBounds_toArray, List.set_cons_zero, List.set_cons_succ]
  refine wpAnyH_take (i := 4) (v := ?_) rfl (by kernel_rfl) (by kernel_rfl) (by kernel_rfl) (fun _ _ _ h => h) (Or.inl ⟨by kernel_rfl, ?_⟩) (by assumption) ?_
  rotate_left
  · intro w hSw
    (try dsimp only at hSw)
    go_simp
    all_goals (with_reducible rfl)
  try simp only [Act.put, List.getElem_toArray, List.getElem_cons_zero, List.getElem_cons_succ, List.setIfInBounds_toArray, List.set_cons_zero, List.set_cons_succ]
  refine wpAnyH_ready (rs := [2]) (by kernel_rfl) (by simp) ?_
  refine AllReadyH.cons rfl (fun K hK => ?_) AllReadyH.nil
  go_simp
  go_at_call_of 40 (Value.agg #[.bool s0, .slice A0 n0 c0, .bool t0, .slice B0 m0 d0])
  refine (fstring_any (mkP A C) (mkQ A C) s0 t0 A0 B0 n0 c0 m0 d0 v0 F0_0.out (md_lims HMD.out).1.2.1 (md_lims HMD.out).1.2.2 (md_lims HMD.out).1.1).mono ?_
  rintro e v1 ⟨rfl, hk⟩
  have HB_1 := Lib.hid hk
  go_wp2_with fail
  have HX_1 := Lib.hid (bt HX_0.out HB_1.out)
  have F0_1 := Lib.hid ((F0_0.out).new HB_1.out)
  have F1_1 := Lib.hid ((F1_0.out).new HB_1.out)
  have F2_1 := Lib.hid ((F2_0.out).new HB_1.out)
  have F3_1 := Lib.hid ((F3_0.out).new HB_1.out)
  refine hK.out _ _ (HS.out _ HX_1.out) (fun hHeld2 => ?_)
  clear hHeld
  have hHeld := hHeld2
  clear hHeld2 hK K hk HB_1 HX_0 F0_0 F1_0 F2_0 F3_0
  try simp only [Act.put, List.getElem_toArray, List.getElem_cons_zero, List.getElem_cons_succ, List.setIfInBounds_toArray, List.set_cons_zero, List.set_cons_succ]
  refine wpAnyH_ready (rs := [5]) (by kernel_rfl) (by simp) ?_
  refine AllReadyH.cons rfl (fun K hK => ?_) AllReadyH.nil
  go_simp
  go_at_call_of 40 (Value.agg #[.bool s2, .slice A2 n2 c2, .bool t2, .slice B2 m2 d2])
  refine (fstring_any (mkP A C) (mkQ A C) s2 t2 A2 B2 n2 c2 m2 d2 v1 F2_1.out (md_lims HMD.out).1.2.1 (md_lims HMD.out).1.2.2 (md_lims HMD.out).1.1).mono ?_
  rintro e v2 ⟨rfl, hk⟩
  have HB_2 := Lib.hid hk
  go_wp2_with fail
  have HX_2 := Lib.hid (bt HX_1.out HB_2.out)
  have F0_2 := Lib.hid ((F0_1.out).new HB_2.out)
  have F1_2 := Lib.hid ((F1_1.out).new HB_2.out)
  have F2_2 := Lib.hid ((F2_1.out).new HB_2.out)
  have F3_2 := Lib.hid ((F3_1.out).new HB_2.out)
  refine hK.out _ _ (HS.out _ HX_2.out) (fun hHeld2 => ?_)
  clear hHeld
  have hHeld := hHeld2
  clear hHeld2 hK K hk HB_2 HX_1 F0_1 F1_1 F2_1 F3_1
  try simp only [Act.put, List.getElem_toArray, List.getElem_cons_zero, List.getElem_cons_succ, List.setIfInBounds_toArray, List.set_cons_zero, List.set_cons_succ]
  refine wpAnyH_take (i := 6) (v := ?_) rfl (by kernel_rfl) (by kernel_rfl) (by kernel_rfl) (fun _ _ _ h => h) (Or.inl ⟨by kernel_rfl, ?_⟩) (by assumption) ?_
  rotate_left
  · intro w hSw
    (try dsimp only at hSw)
    go_simp
    all_goals (with_reducible rfl)
  try simp only [Act.put, List.getElem_toArray, List.getElem_cons_zero, List.getElem_cons_succ, List.setIfInBounds_toArray, List.set_cons_zero, List.set_cons_succ]
  refine wpAnyH_take (i := 7) (v := ?_) rfl (by kernel_rfl) (by kernel_rfl) (by kernel_rfl) (fun _ _ _ h => h) (Or.inl ⟨by kernel_rfl, ?_⟩) (by assumption) ?_
  rotate_left
  · intro w hSw
    (try dsimp only at hSw)
    go_simp
    all_goals (with_reducible rfl)
  try simp only [Act.put, List.getElem_toArray, List.getElem_cons_zero, List.getElem_cons_succ, List.setIfInBounds_toArray, List.set_cons_zero, List.set_cons_succ]
  refine wpAnyH_take (i := 8) (v := ?_) rfl (by kernel_rfl) (by kernel_rfl) (by kernel_rfl) (fun _ _ _ h => h) (Or.inl ⟨by kernel_rfl, ?_⟩) (by assumption) ?_
  rotate_left
  · intro w hSw
    (try dsimp only at hSw)
    go_simp
    all_goals (with_reducible rfl)
  try simp only [Act.put, List.getElem_toArray, List.getElem_cons_zero, List.getElem_cons_succ, List.setIfInBounds_toArray, List.set_cons_zero, List.set_cons_succ]
  refine wpAnyH_take (i := 9) (v := ?_) rfl (by kernel_rfl) (by kernel_rfl) (by kernel_rfl) (fun _ _ _ h => h) (Or.inl ⟨by kernel_rfl, ?_⟩) (by assumption) ?_
  rotate_left
  · intro w hSw
    (try dsimp only at hSw)
    go_simp
    all_goals (with_reducible rfl)
  try simp only [Act.put, List.getElem_toArray, List.getElem_cons_zero, List.getElem_cons_succ, List.setIfInBounds_toArray, List.set_cons_zero, List.set_cons_succ]
  refine wpAnyH_take (i := 11) (v := ?_) rfl (by kernel_rfl) (by kernel_rfl) (by kernel_rfl) (fun _ _ _ h => h) (Or.inl ⟨by kernel_rfl, ?_⟩) (by assumption) ?_
  rotate_left
  · intro w hSw
    (try dsimp only at hSw)
    go_simp
    all_goals (with_reducible rfl)
  try simp only [Act.put, List.getElem_toArray, List.getElem_cons_zero, List.getElem_cons_succ, List.setIfInBounds_toArray, List.set_cons_zero, List.set_cons_succ]
  refine wpAnyH_take (i := 12) (v := ?_) rfl (by kernel_rfl) (by kernel_rfl) (by kernel_rfl) (fun _ _ _ h => h) (Or.inl ⟨by kernel_rfl, ?_⟩) (by assumption) ?_
  rotate_left
  · intro w hSw
    (try dsimp only at hSw)
    go_simp
    all_goals (with_reducible rfl)
  try simp only [Act.put, List.getElem_toArray, List.getElem_cons_zero, List.getElem_cons_succ, List.setIfInBounds_toArray, List.set_cons_zero, List.set_cons_succ]
  refine wpAnyH_ready (rs := [10]) (by kernel_rfl) (by simp) ?_
  refine AllReadyH.cons rfl (fun K hK => ?_) AllReadyH.nil
  go_simp
  go_at_call_of 40 (Value.agg #[.bool s1, .slice A1 n1 c1, .bool t1, .slice B1 m1 d1])
  refine (fstring_any (mkP B C) (mkQ B C) s1 t1 A1 B1 n1 c1 m1 d1 v2 F1_2.out (md_lims HMD.out).2.2.1 (md_lims HMD.out).2.2.2 (md_lims HMD.out).2.1).mono ?_
  rintro e v3 ⟨rfl, hk⟩
  have HB_3 := Lib.hid hk
  go_wp2_with fail
  have HX_3 := Lib.hid (bt HX_2.out HB_3.out)
  have F0_3 := Lib.hid ((F0_2.out).new HB_3.out)
  have F1_3 := Lib.hid ((F1_2.out).new HB_3.out)
  have F2_3 := Lib.hid ((F2_2.out).new HB_3.out)
  have F3_3 := Lib.hid ((F3_2.out).new HB_3.out)
  refine hK.out _ _ (HS.out _ HX_3.out) (fun hHeld2 => ?_)
  clear hHeld
  have hHeld := hHeld2
  clear hHeld2 hK K hk HB_3 HX_2 F0_2 F1_2 F2_2 F3_2
  try simp only [Act.put, List.getElem_toArray, List.getElem_cons_zero, List.getElem_cons_succ, List.setIfInBounds_toArray, List.set_cons_zero, List.set_cons_succ]
  refine wpAnyH_ready (rs := [13]) (by kernel_rfl) (by simp) ?_
  refine AllReadyH.cons rfl (fun K hK => ?_) AllReadyH.nil
  go_simp
  go_at_call_of 40 (Value.agg #[.bool s3, .slice A3 n3 c3, .bool t3, .slice B3 m3 d3])
  refine (fstring_any (mkP B C) (mkQ B C) s3 t3 A3 B3 n3 c3 m3 d3 v3 F3_3.out (md_lims HMD.out).2.2.1 (md_lims HMD.out).2.2.2 (md_lims HMD.out).2.1).mono ?_
  rintro e v4 ⟨rfl, hk⟩
  have HB_4 := Lib.hid hk
  go_wp2_with fail
  have HX_4 := Lib.hid (bt HX_3.out HB_4.out)
  have F0_4 := Lib.hid ((F0_3.out).new HB_4.out)
  have F1_4 := Lib.hid ((F1_3.out).new HB_4.out)
  have F2_4 := Lib.hid ((F2_3.out).new HB_4.out)
  have F3_4 := Lib.hid ((F3_3.out).new HB_4.out)
  refine hK.out _ _ (HS.out _ HX_4.out) (fun hHeld2 => ?_)
  clear hHeld
  have hHeld := hHeld2
  clear hHeld2 hK K hk HB_4 HX_3 F0_3 F1_3 F2_3 F3_3
  try simp only [Act.put, List.getElem_toArray, List.getElem_cons_zero, List.getElem_cons_succ, List.setIfInBounds_toArray, List.set_cons_zero, List.set_cons_succ]
  refine wpAnyH_take (i := 14) (v := ?_) rfl (by kernel_rfl) (by kernel_rfl) (by kernel_rfl) (fun _ _ _ h => h) (Or.inl ⟨by kernel_rfl, ?_⟩) (by assumption) ?_
  rotate_left
  · intro w hSw
    (try dsimp only at hSw)
    go_simp
    all_goals (with_reducible rfl)
  try simp only [Act.put, List.getElem_toArray, List.getElem_cons_zero, List.getElem_cons_succ, List.setIfInBounds_toArray, List.set_cons_zero, List.set_cons_succ]
  refine wpAnyH_take (i := 15) (v := ?_) rfl (by kernel_rfl) (by kernel_rfl) (by kernel_rfl) (fun _ _ _ h => h) (Or.inl ⟨by kernel_rfl, ?_⟩) (by assumption) ?_
  rotate_left
  · intro w hSw
    (try dsimp only at hSw)
    go_simp
    all_goals (with_reducible rfl)
  try simp only [Act.put, List.getElem_toArray, List.getElem_cons_zero, List.getElem_cons_succ, List.setIfInBounds_toArray, List.set_cons_zero, List.set_cons_succ]
  refine wpAnyH_take (i := 16) (v := ?_) rfl (by kernel_rfl) (by kernel_rfl) (by kernel_rfl) (fun _ _ _ h => h) (Or.inl ⟨by kernel_rfl, ?_⟩) (by assumption) ?_
  rotate_left
  · intro w hSw
    (try dsimp only at hSw)
    go_simp
    all_goals (with_reducible rfl)
  try simp only [Act.put, List.getElem_toArray, List.getElem_cons_zero, List.getElem_cons_succ, List.setIfInBounds_toArray, List.set_cons_zero, List.set_cons_succ]
  refine wpAnyH_done (by kernel_rfl) ?_ _
  clear hHeld
  have HLB := Lib.hid (bt HKb.out HX_4.out)
  go_wp2
  go_ret
  exact ⟨rfl, HLB.out⟩
end Go.Proofs.Ytfmccalkfagafaa
