/- Contracts of the program's points: Mid's closure. Conditions: as each statement has them. -/
import Derived.Test.YtfmccalkfagafaaYPC
namespace Go.Proofs.Ytfmccalkfagafaa
open Go.RowKit
attribute [local go_sem ↓] Go.wp_at_zero Go.wp_at_succ
def mdP (p q r s : Int) : Int := if adC p q r s = 0 then dvP (adP p q r s) (adQ p q r s) 2 1 else 0
def mdQ (p q r s : Int) : Int := if adC p q r s = 0 then dvQ (adP p q r s) (adQ p q r s) 2 1 else 1
def mdC (p q r s : Int) : Int := if adC p q r s = 0 then dvC (adP p q r s) (adQ p q r s) 2 1 else adC p q r s
theorem adQ_pos {p q r s : Int} (hq : 0 < q) (hs : 0 < s) : 0 < adQ p q r s := by
  unfold adQ
  split
  · have h1 : 0 < adG q s := by
      have := Nat.gcd_pos_of_pos_left s.natAbs (show 0 < q.natAbs by omega)
      unfold adG; omega
    have h2 : adG q s ≤ s := by
      have := Nat.gcd_le_right q.natAbs (show 0 < s.natAbs by omega)
      unfold adG; omega
    have h3 : 0 < q / adG q s := by
      obtain ⟨k, hk⟩ := Nat.gcd_dvd_left q.natAbs s.natAbs
      have hq2 : q = adG q s * (k : Int) := by
        unfold adG
        have h3 : q = (q.natAbs : Int) := by omega
        conv => lhs; rw [h3, hk, Int.natCast_mul]
      have hk0 : (k : Int) ≠ 0 := fun e => by rw [e, Int.mul_zero] at hq2; omega
      have : q / adG q s = (k : Int) := by
        conv => lhs; lhs; rw [hq2]
        exact Int.mul_ediv_cancel_left _ (by omega)
      omega
    have h4 : s ≤ adD q s := by
      unfold adD
      have := Int.mul_le_mul_of_nonneg_right (show (1 : Int) ≤ q / adG q s by omega) (show 0 ≤ s by omega)
      omega
    have h5 : 0 < adH p q r s ∧ adH p q r s ≤ adG q s := by
      have e0 : 0 < (adG q s).natAbs := by omega
      have e1 := Nat.gcd_pos_of_pos_right (adN p q r s).natAbs e0
      have e2 := Nat.gcd_le_right (adN p q r s).natAbs e0
      unfold adH
      omega
    have h6 : 1 ≤ adD q s / adH p q r s := (Int.le_ediv_iff_mul_le h5.1).2 (by omega)
    omega
  · decide
theorem ad_lims {p q r s : Int} : (adP p q r s).natAbs < lim ∧ (adQ p q r s).natAbs < lim := by
  unfold adP adQ
  by_cases h : adK p q r s
  · rw [if_pos h, if_pos h]
    exact ⟨ed_lim h.2.2.1, ed_lim h.2.2.2⟩
  · rw [if_neg h, if_neg h]
    exact ⟨by have := one_lim; simp at this ⊢; omega, one_lim⟩
set_option maxRecDepth 100000 in
set_option maxHeartbeats 3200000 in
theorem mid1_any (p q r s : Int) (s0 : Bool) (A0 : Option Addr) (n0 c0 : Nat) (t0 : Bool) (B0 : Option Addr) (m0 d0 : Nat) (s1 : Bool) (A1 : Option Addr) (n1 c1 : Nat) (t1 : Bool) (B1 : Option Addr) (m1 d1 : Nat) (s2 : Bool) (A2 : Option Addr) (n2 c2 : Nat) (t2 : Bool) (B2 : Option Addr) (m2 d2 : Nat) (g : Nat) (w : World) (h0 : PF w s0 A0 n0 c0 t0 B0 m0 d0 p q) (h1 : PF w s1 A1 n1 c1 t1 B1 m1 d1 r s) (ha : P4 31 w g (.bool s2) (.slice A2 n2 c2) (.bool t2) (.slice B2 m2 d2)) (h2 : PF w s2 A2 n2 c2 t2 B2 m2 d2 2 1) (hl : (0 < q ∧ p.natAbs < lim ∧ q.natAbs < lim) ∧ (0 < s ∧ r.natAbs < lim ∧ s.natAbs < lim)) :
    Calls Try.prog 52 #[.agg #[.bool s0, .slice A0 n0 c0, .bool t0, .slice B0 m0 d0, .bool s1, .slice A1 n1 c1, .bool t1, .slice B1 m1 d1], .pointer (some ⟨g, 0, none⟩)] w (RetFE (mdP p q r s) (mdQ p q r s) (mdC p q r s) w) := by
  have HL := Lib.hid hl
  clear hl
  obtain ⟨W, hW⟩ : ∃ W, (w.alloc (.cells #[.bool s0, .slice A0 n0 c0, .bool t0, .slice B0 m0 d0, .bool s1, .slice A1 n1 c1, .bool t1, .slice B1 m1 d1] 78)).alloc (.cells #[.bool false, .slice none 0 0, .bool false, .slice none 0 0] 31) = W := ⟨_, rfl⟩
  have HK := Lib.hid (show Below w.heap.size w W by rw [← hW]; exact ((Below.refl _ w).alloc (Nat.le_refl _) _).alloc (by simp) _)
  have HA := Lib.hid (show P8 78 W w.heap.size (.bool s0) (.slice A0 n0 c0) (.bool t0) (.slice B0 m0 d0) (.bool s1) (.slice A1 n1 c1) (.bool t1) (.slice B1 m1 d1) by rw [← hW]; exact (P8.lit w _ _ _ _ _ _ _ _ _).new ((Below.refl _ _).alloc (Nat.le_refl _) _))
  have HZ := Lib.hid (show P4 31 W (w.heap.size + 1) (.bool false) (.slice none 0 0) (.bool false) (.slice none 0 0) by
    rw [← hW]
    have h0 := P4.lit (w.alloc (.cells #[.bool s0, .slice A0 n0 c0, .bool t0, .slice B0 m0 d0, .bool s1, .slice A1 n1 c1, .bool t1, .slice B1 m1 d1] 78)) 31 (.bool false) (.slice none 0 0) (.bool false) (.slice none 0 0)
    rw [World.size_alloc] at h0
    exact h0)
  have H0 := Lib.hid (h0.new HK.out)
  have H1 := Lib.hid (h1.new HK.out)
  have H2 := Lib.hid (h2.new HK.out)
  have HT := Lib.hid (ha.new HK.out)
  clear h0 h1 h2 ha
  obtain ⟨h, hh⟩ : ∃ h, w.heap.size = h := ⟨_, rfl⟩
  have HH := Lib.hid hh
  rw [hh] at HA HZ
  obtain ⟨⟨p0, p1, p2, p3⟩, p4, p5, p6, p7⟩ := HA.out.cells
  go_enter Try.func52, Try.ntmps52
  go_wp2_with fail
  clear hW hh
  refine (fadd_any p q r s s0 t0 s1 t1 A0 B0 A1 B1 n0 c0 m0 d0 n1 c1 m1 d1 W H0.out H1.out HL.out.1.1 HL.out.2.1 HL.out.1.2.1 HL.out.1.2.2 HL.out.2.2.1 HL.out.2.2.2).mono ?_
  clear H0 H1
  have HPQ := Lib.hid (And.intro (adQ_pos (p := p) (r := r) HL.out.1.1 HL.out.2.1) (ad_lims (p := p) (q := q) (r := r) (s := s)))
  have HM : Hid (mdP p q r s = (if adC p q r s = 0 then dvP (adP p q r s) (adQ p q r s) 2 1 else 0) ∧ mdQ p q r s = (if adC p q r s = 0 then dvQ (adP p q r s) (adQ p q r s) 2 1 else 1) ∧ mdC p q r s = (if adC p q r s = 0 then dvC (adP p q r s) (adQ p q r s) 2 1 else adC p q r s)) := Lib.hid ⟨rfl, rfl, rfl⟩
  obtain ⟨P, hP⟩ : ∃ z, adP p q r s = z := ⟨_, rfl⟩
  obtain ⟨Q, hQ⟩ : ∃ z, adQ p q r s = z := ⟨_, rfl⟩
  obtain ⟨C, hC⟩ : ∃ z, adC p q r s = z := ⟨_, rfl⟩
  rw [hP, hQ] at HPQ HM
  rw [hC] at HM
  rw [hP, hQ, hC]
  clear hP hQ hC
  rintro e w1 ⟨s3, A3, n3, c3, t3, B3, m3, d3, rfl, hr1, hb1⟩
  obtain ⟨x1, hx1⟩ : ∃ z, w1.alloc (.cells #[.bool s3, .slice A3 n3 c3, .bool t3, .slice B3 m3 d3] 31) = z := ⟨_, rfl⟩
  have HK1 := Lib.hid (show Below w1.heap.size w1 x1 by rw [← hx1]; exact (Below.refl _ _).alloc (Nat.le_refl _) _)
  have HQ1 := Lib.hid (show P4 31 x1 w1.heap.size (.bool s3) (.slice A3 n3 c3) (.bool t3) (.slice B3 m3 d3) by rw [← hx1]; exact P4.lit _ _ _ _ _ _)
  have HR1 := Lib.hid (hr1.new HK1.out)
  have HB0 := Lib.hid (bt hb1 HK1.out)
  have HB1 := Lib.hid (bt HK.out HB0.out)
  have HZ1 := Lib.hid (HZ.out.new HB0.out)
  have HT1 := Lib.hid (HT.out.new HB0.out)
  have H21 := Lib.hid (H2.out.new HB0.out)
  clear hr1 hb1 p0 p1 p2 p3 p4 p5 p6 p7
  by_cases hc : C = 0
  · have HV := Lib.hid (show mdP p q r s = dvP P Q 2 1 ∧ mdQ p q r s = dvQ P Q 2 1 ∧ mdC p q r s = dvC P Q 2 1 from ⟨by rw [HM.out.1, if_pos hc], by rw [HM.out.2.1, if_pos hc], by rw [HM.out.2.2, if_pos hc]⟩)
    subst hc
    obtain ⟨a0, a1, a2, a3⟩ := HQ1.out.cells
    obtain ⟨b0, b1, b2, b3⟩ := HT1.out.cells
    go_wp2_with fail
    refine (fdiv_any P Q 2 1 s3 t3 s2 t2 A3 B3 A2 B2 n3 c3 m3 d3 n2 c2 m2 d2 x1 HR1.out H21.out HPQ.out.1 (by decide) HPQ.out.2.1 HPQ.out.2.2 (i64_lim (by decide)) one_lim).mono ?_
    rintro e w3 ⟨s4, A4, n4, c4, t4, B4, m4, d4, rfl, hr3, hb3⟩
    have HR3 := Lib.hid hr3
    have HB3 := Lib.hid (bt HB1.out hb3)
    have HZ3 := Lib.hid (HZ1.out.new hb3)
    clear hr3 hb3 a0 a1 a2 a3 b0 b1 b2 b3
    obtain ⟨z0, z1, z2, z3⟩ := HZ3.out.cells
    have f0 := HZ3.out.frozen 0
    have f1 := HZ3.out.frozen 1
    have f2 := HZ3.out.frozen 2
    have f3 := HZ3.out.frozen 3
    go_wp2
    exact bodyPost_ret (results_cell1 rfl _ _ _ _ _ _ _ rfl (HZ3.out.all (.bool s4) (.slice A4 n4 c4) (.bool t4) (.slice B4 m4 d4)) Try.underlying31 rfl F_size) rfl (by rw [HV.out.1, HV.out.2.1, HV.out.2.2]; exact RetFE.stored HR3.out HZ3.out HB3.out (by rw [HH.out]; omega) _ _ _ _)
  · have HV := Lib.hid (show mdP p q r s = 0 ∧ mdQ p q r s = 1 ∧ mdC p q r s = C from ⟨by rw [HM.out.1, if_neg hc], by rw [HM.out.2.1, if_neg hc], by rw [HM.out.2.2, if_neg hc]⟩)
    have hcb : (C == 0) = false := by simp [hc]
    clear hc
    obtain ⟨z0, z1, z2, z3⟩ := HZ1.out.cells
    have f0 := HZ1.out.frozen 0
    have f1 := HZ1.out.frozen 1
    have f2 := HZ1.out.frozen 2
    have f3 := HZ1.out.frozen 3
    go_wp2
    exact bodyPost_ret (results_cell1 rfl _ _ _ _ _ _ _ rfl (HZ1.out.all (.bool false) (.slice none 0 0) (.bool false) (.slice none 0 0)) Try.underlying31 rfl F_size) rfl (by rw [HV.out.1, HV.out.2.1, HV.out.2.2]; exact RetFE.stored (p := 0) (q := 1) ⟨PI.zero _, PI.zero _⟩ HZ1.out HB1.out (by rw [HH.out]; omega) _ _ _ _)
end Go.Proofs.Ytfmccalkfagafaa
