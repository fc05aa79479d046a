/- Contracts of the program's points: Mid. Conditions: as each statement has them. -/
import Derived.Test.YtfmccalkfagafaaYPK
namespace Go.Proofs.Ytfmccalkfagafaa
open Go.RowKit
attribute [local go_sem ↓] Go.wp_at_zero Go.wp_at_succ
set_option maxRecDepth 100000 in
set_option maxHeartbeats 3200000 in
theorem pmid_any (p q u v p' q' u' v' : Int) (s0 : Bool) (A0 : Option Addr) (n0 c0 : Nat) (t0 : Bool) (B0 : Option Addr) (m0 d0 : Nat) (s1 : Bool) (A1 : Option Addr) (n1 c1 : Nat) (t1 : Bool) (B1 : Option Addr) (m1 d1 : Nat) (s2 : Bool) (A2 : Option Addr) (n2 c2 : Nat) (t2 : Bool) (B2 : Option Addr) (m2 d2 : Nat) (s3 : Bool) (A3 : Option Addr) (n3 c3 : Nat) (t3 : Bool) (B3 : Option Addr) (m3 d3 : Nat) (w : World) (h0 : PF w s0 A0 n0 c0 t0 B0 m0 d0 p q) (h1 : PF w s1 A1 n1 c1 t1 B1 m1 d1 u v) (h2 : PF w s2 A2 n2 c2 t2 B2 m2 d2 p' q') (h3 : PF w s3 A3 n3 c3 t3 B3 m3 d3 u' v') (hl : ((0 < q ∧ p.natAbs < lim ∧ q.natAbs < lim) ∧ (0 < q' ∧ p'.natAbs < lim ∧ q'.natAbs < lim)) ∧ (0 < v ∧ u.natAbs < lim ∧ v.natAbs < lim) ∧ (0 < v' ∧ u'.natAbs < lim ∧ v'.natAbs < lim)) :
    Calls Try.prog 21 #[.agg #[.bool s0, .slice A0 n0 c0, .bool t0, .slice B0 m0 d0, .bool s1, .slice A1 n1 c1, .bool t1, .slice B1 m1 d1], .agg #[.bool s2, .slice A2 n2 c2, .bool t2, .slice B2 m2 d2, .bool s3, .slice A3 n3 c3, .bool t3, .slice B3 m3 d3]] w (RetTT (meX p q p' q' u v u' v') (meXd p q p' q' u v u' v') (meY p q p' q' u v u' v') (meYd p q p' q' u v u' v') (meC p q p' q' u v u' v') w) := by
  have HL := Lib.hid hl
  clear hl
  obtain ⟨W, hW⟩ : ∃ W, ((w.alloc (.cells #[.bool s0, .slice A0 n0 c0, .bool t0, .slice B0 m0 d0, .bool s1, .slice A1 n1 c1, .bool t1, .slice B1 m1 d1] 33)).alloc (.cells #[.bool s2, .slice A2 n2 c2, .bool t2, .slice B2 m2 d2, .bool s3, .slice A3 n3 c3, .bool t3, .slice B3 m3 d3] 33)).alloc (.cells #[.bool false, .slice none 0 0, .bool false, .slice none 0 0, .bool false, .slice none 0 0, .bool false, .slice none 0 0] 33) = W := ⟨_, rfl⟩
  have HK := Lib.hid (show Below w.heap.size w W by rw [← hW]; exact (((Below.refl _ w).alloc (Nat.le_refl _) _).alloc (by simp) _).alloc (by simp; omega) _)
  have HA := Lib.hid (show P8 33 W w.heap.size (.bool s0) (.slice A0 n0 c0) (.bool t0) (.slice B0 m0 d0) (.bool s1) (.slice A1 n1 c1) (.bool t1) (.slice B1 m1 d1) by rw [← hW]; exact ((P8.lit w _ _ _ _ _ _ _ _ _).new ((Below.refl _ _).alloc (Nat.le_refl _) _)).new ((Below.refl _ _).alloc (Nat.le_refl _) _))
  have HB := Lib.hid (show P8 33 W (w.heap.size + 1) (.bool s2) (.slice A2 n2 c2) (.bool t2) (.slice B2 m2 d2) (.bool s3) (.slice A3 n3 c3) (.bool t3) (.slice B3 m3 d3) by
    rw [← hW]
    have h0 := P8.lit (w.alloc (.cells #[.bool s0, .slice A0 n0 c0, .bool t0, .slice B0 m0 d0, .bool s1, .slice A1 n1 c1, .bool t1, .slice B1 m1 d1] 33)) 33 (.bool s2) (.slice A2 n2 c2) (.bool t2) (.slice B2 m2 d2) (.bool s3) (.slice A3 n3 c3) (.bool t3) (.slice B3 m3 d3)
    rw [World.size_alloc] at h0
    exact h0.new ((Below.refl _ _).alloc (Nat.le_refl _) _))
  have HZ := Lib.hid (show P8 33 W (w.heap.size + 1 + 1) (.bool false) (.slice none 0 0) (.bool false) (.slice none 0 0) (.bool false) (.slice none 0 0) (.bool false) (.slice none 0 0) by
    rw [← hW]
    have h0 := P8.lit ((w.alloc (.cells #[.bool s0, .slice A0 n0 c0, .bool t0, .slice B0 m0 d0, .bool s1, .slice A1 n1 c1, .bool t1, .slice B1 m1 d1] 33)).alloc (.cells #[.bool s2, .slice A2 n2 c2, .bool t2, .slice B2 m2 d2, .bool s3, .slice A3 n3 c3, .bool t3, .slice B3 m3 d3] 33)) 33 (.bool false) (.slice none 0 0) (.bool false) (.slice none 0 0) (.bool false) (.slice none 0 0) (.bool false) (.slice none 0 0)
    rw [World.size_alloc, World.size_alloc] at h0
    exact h0)
  have H0 := Lib.hid (h0.new HK.out)
  have H1 := Lib.hid (h1.new HK.out)
  have H2 := Lib.hid (h2.new HK.out)
  have H3 := Lib.hid (h3.new HK.out)
  clear h0 h1 h2 h3
  obtain ⟨h, hh⟩ : ∃ h, w.heap.size = h := ⟨_, rfl⟩
  have HH := Lib.hid hh
  rw [hh] at HA HB HZ
  obtain ⟨RX, e1⟩ : ∃ z, meX p q p' q' u v u' v' = z := ⟨_, rfl⟩
  obtain ⟨RXd, e2⟩ : ∃ z, meXd p q p' q' u v u' v' = z := ⟨_, rfl⟩
  obtain ⟨RY, e3⟩ : ∃ z, meY p q p' q' u v u' v' = z := ⟨_, rfl⟩
  obtain ⟨RYd, e4⟩ : ∃ z, meYd p q p' q' u v u' v' = z := ⟨_, rfl⟩
  obtain ⟨RC, e5⟩ : ∃ z, meC p q p' q' u v u' v' = z := ⟨_, rfl⟩
  have HRES := Lib.hid (And.intro e1 (And.intro e2 (And.intro e3 (And.intro e4 e5))))
  rw [e1, e2, e3, e4, e5]
  clear e1 e2 e3 e4 e5
  go_enter Try.func21, Try.ntmps21
  go_wp2_with fail
  clear hW hh
  refine (fof_any 2 1 W (by decide) (by decide)).mono ?_
  rw [(mk_one 2).1, (mk_one 2).2.1, (mk_one 2).2.2]
  rintro e w1 ⟨s4, A4, n4, c4, t4, B4, m4, d4, rfl, hr1, hb1⟩
  obtain ⟨x1, hx1⟩ : ∃ z, w1.alloc (.cells #[.bool s4, .slice A4 n4 c4, .bool t4, .slice B4 m4 d4] 31) = z := ⟨_, rfl⟩
  have HK1 := Lib.hid (show Below w1.heap.size w1 x1 by rw [← hx1]; exact (Below.refl _ _).alloc (Nat.le_refl _) _)
  have HQ1 := Lib.hid (show P4 31 x1 w1.heap.size (.bool s4) (.slice A4 n4 c4) (.bool t4) (.slice B4 m4 d4) by rw [← hx1]; exact P4.lit _ _ _ _ _ _)
  obtain ⟨x2, hx2⟩ : ∃ z, x1.alloc (.cells #[.bool s0, .slice A0 n0 c0, .bool t0, .slice B0 m0 d0, .bool s2, .slice A2 n2 c2, .bool t2, .slice B2 m2 d2, .bool s1, .slice A1 n1 c1, .bool t1, .slice B1 m1 d1, .bool s3, .slice A3 n3 c3, .bool t3, .slice B3 m3 d3] 91) = z := ⟨_, rfl⟩
  have HK2 := Lib.hid (show Below x1.heap.size x1 x2 by rw [← hx2]; exact (Below.refl _ _).alloc (Nat.le_refl _) _)
  have HQ2 := Lib.hid (show P16 91 x2 x1.heap.size (.bool s0) (.slice A0 n0 c0) (.bool t0) (.slice B0 m0 d0) (.bool s2) (.slice A2 n2 c2) (.bool t2) (.slice B2 m2 d2) (.bool s1) (.slice A1 n1 c1) (.bool t1) (.slice B1 m1 d1) (.bool s3) (.slice A3 n3 c3) (.bool t3) (.slice B3 m3 d3) by rw [← hx2]; exact P16.lit _ _ _ _ _ _ _ _ _ _ _ _ _ _ _ _ _ _)
  have HB1 := Lib.hid (bt hb1 HK1.out)
  have HB2 := Lib.hid (bt HB1.out HK2.out)
  have HA1 := Lib.hid (HA.out.new HB1.out)
  have HBB1 := Lib.hid (HB.out.new HB1.out)
  have HZ2 := Lib.hid (HZ.out.new HB2.out)
  have H02 := Lib.hid (H0.out.new HB2.out)
  have H12 := Lib.hid (H1.out.new HB2.out)
  have H22 := Lib.hid (H2.out.new HB2.out)
  have H32 := Lib.hid (H3.out.new HB2.out)
  have HT2 := Lib.hid (HQ1.out.new HK2.out)
  have HR2 := Lib.hid ((hr1.new HK1.out).new HK2.out)
  have HW2 := Lib.hid (bt HK.out HB2.out)
  clear hr1 hb1 HA HB HZ H0 H1 H2 H3 HK
  obtain ⟨⟨p0, p1, p2, p3⟩, p4, p5, p6, p7⟩ := HA1.out.cells
  obtain ⟨⟨q0, q1, q2, q3⟩, q4, q5, q6, q7⟩ := HBB1.out.cells
  obtain ⟨⟨r0, r1, r2, r3⟩, ⟨r4, r5, r6, r7⟩, ⟨r8, r9, r10, r11⟩, r12, r13, r14, r15⟩ := HQ2.out.cells
  go_wp2_with fail
  clear hx1 hx2 p0 p1 p2 p3 p4 p5 p6 p7 q0 q1 q2 q3 q4 q5 q6 q7 r0 r1 r2 r3 r4 r5 r6 r7 r8 r9 r10 r11 r12 r13 r14 r15
  refine (each3_any p q p' q' u v u' v' s0 A0 n0 c0 t0 B0 m0 d0 s2 A2 n2 c2 t2 B2 m2 d2 s1 A1 n1 c1 t1 B1 m1 d1 s3 A3 n3 c3 t3 B3 m3 d3 s4 A4 n4 c4 t4 B4 m4 d4 w1.heap.size x2 H02.out H22.out H12.out H32.out HT2.out HR2.out HL.out).mono ?_
  rw [HRES.out.1, HRES.out.2.1, HRES.out.2.2.1, HRES.out.2.2.2.1, HRES.out.2.2.2.2]
  clear H02 H12 H22 H32 HT2 HR2 HA1 HBB1 HQ1 HQ2
  rintro e w3 ⟨s5, A5, n5, c5, t5, B5, m5, d5, s6, A6, n6, c6, t6, B6, m6, d6, rfl, h5, h6, hb3⟩
  have H5 := Lib.hid h5
  have H6 := Lib.hid h6
  have HB3 := Lib.hid (bt HW2.out hb3)
  have HZ3 := Lib.hid (HZ2.out.new hb3)
  clear h5 h6 hb3
  go_wp2_with fail
  refine (rational_any RX RXd RY RYd s5 A5 n5 c5 t5 B5 m5 d5 s6 A6 n6 c6 t6 B6 m6 d6 RC w3 H5.out H6.out).mono ?_
  clear H5 H6
  rintro e w4 ⟨s7, A7, n7, c7, t7, B7, m7, d7, s8, A8, n8, c8, t8, B8, m8, d8, rfl, h5, h6, hb4⟩
  have H5 := Lib.hid h5
  have H6 := Lib.hid h6
  have HB4 := Lib.hid (bt HB3.out hb4)
  have HZ4 := Lib.hid (HZ3.out.new hb4)
  clear h5 h6 hb4
  obtain ⟨⟨z0, z1, z2, z3⟩, z4, z5, z6, z7⟩ := HZ4.out.cells
  have g0 := HZ4.out.frozen 0
  have g1 := HZ4.out.frozen 1
  have g2 := HZ4.out.frozen 2
  have g3 := HZ4.out.frozen 3
  have g4 := HZ4.out.frozen 4
  have g5 := HZ4.out.frozen 5
  have g6 := HZ4.out.frozen 6
  have g7 := HZ4.out.frozen 7
  have HNO := Lib.hid (show NoW w4 (h + 1 + 1) from noW_of HZ4.out rfl)
  go_wp2
  exact bodyPost_ret (results_cell1 rfl _ _ _ _ _ _ _ rfl (HZ4.out.all (.bool s7) (.slice A7 n7 c7) (.bool t7) (.slice B7 m7 d7) (.bool s8) (.slice A8 n8 c8) (.bool t8) (.slice B8 m8 d8)) Try.underlying33 rfl TP_size) rfl ⟨s7, A7, n7, c7, t7, B7, m7, d7, s8, A8, n8, c8, t8, B8, m8, d8, rfl, PF.apart H5.out (kp8 w4 (h + 1 + 1) _ _ _ _ _ _ _ _) HNO.out, PF.apart H6.out (kp8 w4 (h + 1 + 1) _ _ _ _ _ _ _ _) HNO.out, below8 HB4.out (by rw [HH.out]; omega) _ _ _ _ _ _ _ _⟩
end Go.Proofs.Ytfmccalkfagafaa
