/- Contracts of the reference's fractions: Of, Make, ranged, Neg, Sub, Mul, Div, Sign, Compare. Conditions: as each statement has them. -/
import Derived.Test.YtbhnaffbgggabaaGreatFM
import Derived.Test.YtbhnaffbgggabaaGreatAK
namespace Go.Proofs.YtbhnaffbgggabaaGreat
open Go.RowKit
attribute [local go_sem ↓] Go.wp_at_zero Go.wp_at_succ
/-- What a function of the reference returns that returns a fraction. -/
def RetR (p q : Int) (w : World) (e : Ending) (w' : World) : Prop := ∃ s A n c s' A' n' c', e = .returned (.agg #[.bool s, .slice A n c, .bool s', .slice A' n' c']) ∧ RN w' s A n c p ∧ RN w' s' A' n' c' q ∧ Below w.heap.size w w'
/-- The same with an error. -/
def RetRE (p q code : Int) (w : World) (e : Ending) (w' : World) : Prop := ∃ s A n c s' A' n' c', e = .returned (.tuple #[.agg #[.bool s, .slice A n c, .bool s', .slice A' n' c'], .int .i64 code]) ∧ RN w' s A n c p ∧ RN w' s' A' n' c' q ∧ Below w.heap.size w w'
/-- A fraction of the reference, with a bound of its size. -/
def Rk (k : Nat) (p q : Int) : Prop := Low p q ∧ p.natAbs < B2 k ∧ q.natAbs < B2 k
theorem fr_rk {p q : Int} (h : Fr p q) : Rk (32 * limE) p q := by
 obtain ⟨h1, h2, h3⟩ := h
 rw [lim_two] at h2 h3
 exact ⟨h1, h2, h3⟩
theorem lim_b2 {x : Int} (h : x.natAbs < lim) : x.natAbs < B2 (32 * limE) := by
 rw [lim_two] at h
 exact h
theorem B2.gcd {x d : Int} {k : Nat} (hd : d ≠ 0) (h : d.natAbs < B2 k) : ((Nat.gcd x.natAbs d.natAbs : Nat) : Int).natAbs < B2 k := by
 rw [Int.natAbs_natCast]
 exact Nat.lt_of_le_of_lt (Nat.gcd_le_right _ (by omega)) h
theorem rn_pos {w : World} {s : Bool} {A : Option Addr} {n c : Nat} {x : Int} (h : RN w s A n c x) (hx : x ≠ 0) : 0 < n := by
 rw [← h.2.1, digs_pos (by decide) (by omega)]
 exact Nat.succ_pos _
theorem rn_zero {w : World} {s : Bool} {A : Option Addr} {n c : Nat} (h : RN w s A n c 0) : n = 0 := by
 rw [← h.2.1]
 rw [show (0 : Int).natAbs = 0 from rfl, digs_zero]
 rfl
theorem mk_pos {x d : Int} (hd : 0 < d) : x / ((Nat.gcd x.natAbs d.natAbs : Nat) : Int) = mkP x d ∧ d / ((Nat.gcd x.natAbs d.natAbs : Nat) : Int) = mkQ x d := by
 have e : mkD x d = ((Nat.gcd x.natAbs d.natAbs : Nat) : Int) := if_neg (by omega)
 unfold mkP mkQ
 rw [if_neg (by omega), if_neg (by omega), e]
 exact ⟨rfl, rfl⟩
theorem mk_negs {x d : Int} (hd : d < 0) : -x / ((Nat.gcd (-x).natAbs (-d).natAbs : Nat) : Int) = mkP x d ∧ -d / ((Nat.gcd (-x).natAbs (-d).natAbs : Nat) : Int) = mkQ x d := by
 have e : mkD x d = -((Nat.gcd x.natAbs d.natAbs : Nat) : Int) := if_pos hd
 have hx : ((Nat.gcd x.natAbs d.natAbs : Nat) : Int) ∣ x := Int.ofNat_dvd_left.2 (Nat.gcd_dvd_left _ _)
 have hd' : ((Nat.gcd x.natAbs d.natAbs : Nat) : Int) ∣ d := Int.ofNat_dvd_left.2 (Nat.gcd_dvd_right _ _)
 unfold mkP mkQ
 rw [if_neg (by omega), if_neg (by omega), e, Int.natAbs_neg, Int.natAbs_neg, Int.neg_ediv_of_dvd hx, Int.neg_ediv_of_dvd hd', Int.ediv_neg, Int.ediv_neg]
 exact ⟨rfl, rfl⟩
def rgK (p q : Int) : Prop := p.natAbs < lim ∧ q.natAbs < lim
instance (p q : Int) : Decidable (rgK p q) := inferInstanceAs (Decidable (_ ∧ _))
def rgP (p q e : Int) : Int := if e = 0 ∧ rgK p q then p else 0
def rgQ (p q e : Int) : Int := if e = 0 ∧ rgK p q then q else 1
def rgC (p q e : Int) : Int := if e = 0 then (if rgK p q then 0 else 4) else e
theorem mu_rg {p q r s : Int} (h : Low p q) (h' : Low r s) : rgP (mkP (p * r) (q * s)) (mkQ (p * r) (q * s)) (mkC (q * s)) = muP p q r s ∧ rgQ (mkP (p * r) (q * s)) (mkQ (p * r) (q * s)) (mkC (q * s)) = muQ p q r s ∧ rgC (mkP (p * r) (q * s)) (mkQ (p * r) (q * s)) (mkC (q * s)) = muC p q r s := by
 obtain ⟨_, h2, h3⟩ := mu_eq h h'
 have hc : mkC (q * s) = 0 := if_neg (Int.mul_ne_zero (by have := h.1; omega) (by have := h'.1; omega))
 rw [← h2, ← h3, hc]
 by_cases hk : muK p q r s
 ·have hg : (0 : Int) = 0 ∧ rgK (muN p q r s) (muD p q r s) := ⟨rfl, hk⟩
  refine ⟨?_, ?_, ?_⟩
  ·rw [rgP, if_pos hg]; exact (if_pos hk).symm
  ·rw [rgQ, if_pos hg]; exact (if_pos hk).symm
  ·rw [rgC, if_pos rfl, if_pos hg.2]; exact (if_pos hk).symm
 ·have hg : ¬ ((0 : Int) = 0 ∧ rgK (muN p q r s) (muD p q r s)) := fun h => hk h.2
  refine ⟨?_, ?_, ?_⟩
  ·rw [rgP, if_neg hg]; exact (if_neg hk).symm
  ·rw [rgQ, if_neg hg]; exact (if_neg hk).symm
  ·rw [rgC, if_pos rfl, if_neg (fun h : rgK _ _ => hk h)]; exact (if_neg hk).symm
theorem dv_rg {p q r s : Int} (h : Low p q) (_ : Low r s) : rgP (mkP (p * s) (q * r)) (mkQ (p * s) (q * r)) (mkC (q * r)) = dvP p q r s ∧ rgQ (mkP (p * s) (q * r)) (mkQ (p * s) (q * r)) (mkC (q * r)) = dvQ p q r s ∧ rgC (mkP (p * s) (q * r)) (mkQ (p * s) (q * r)) (mkC (q * r)) = dvC p q r s := by
 by_cases hr : r = 0
 ·subst hr
  rw [Int.mul_zero]
  exact ⟨rfl, rfl, rfl⟩
 ·obtain ⟨_, h2, h3⟩ := dv_eq (p := p) (q := q) (r := r) (s := s) h hr
  have hc : mkC (q * r) = 0 := if_neg (Int.mul_ne_zero (by have := h.1; omega) hr)
  rw [← h2, ← h3, hc]
  unfold dvP dvQ dvC
  rw [if_neg hr, if_neg hr, if_neg hr]
  by_cases hk : muK p q (mkP s r) (mkQ s r)
  ·have hg : (0 : Int) = 0 ∧ rgK (muN p q (mkP s r) (mkQ s r)) (muD p q (mkP s r) (mkQ s r)) := ⟨rfl, hk⟩
   refine ⟨?_, ?_, ?_⟩
   ·rw [rgP, if_pos hg]; exact (if_pos hk).symm
   ·rw [rgQ, if_pos hg]; exact (if_pos hk).symm
   ·rw [rgC, if_pos rfl, if_pos hg.2]; exact (if_pos hk).symm
  ·have hg : ¬ ((0 : Int) = 0 ∧ rgK (muN p q (mkP s r) (mkQ s r)) (muD p q (mkP s r) (mkQ s r))) := fun h => hk h.2
   refine ⟨?_, ?_, ?_⟩
   ·rw [rgP, if_neg hg]; exact (if_neg hk).symm
   ·rw [rgQ, if_neg hg]; exact (if_neg hk).symm
   ·rw [rgC, if_pos rfl, if_neg (fun h : rgK _ _ => hk h)]; exact (if_neg hk).symm
theorem rg_cases (p q e : Int) : ¬ e = 0 ∨ (e = 0 ∧ ¬ p.natAbs < lim) ∨ (e = 0 ∧ p.natAbs < lim ∧ ¬ q.natAbs < lim) ∨ (e = 0 ∧ p.natAbs < lim ∧ q.natAbs < lim) := by
 by_cases h1 : e = 0
 ·by_cases h2 : p.natAbs < lim
  ·by_cases h3 : q.natAbs < lim
   ·exact .inr (.inr (.inr ⟨h1, h2, h3⟩))
   ·exact .inr (.inr (.inl ⟨h1, h2, h3⟩))
  ·exact .inr (.inl ⟨h1, h2⟩)
 ·exact .inl h1
theorem rg_bad {p q e : Int} (h : ¬ e = 0) : rgP p q e = 0 ∧ rgQ p q e = 1 ∧ rgC p q e = e := ⟨if_neg (fun g => h g.1), if_neg (fun g => h g.1), if_neg h⟩
theorem rg_big {p q : Int} (h : ¬ rgK p q) : rgP p q 0 = 0 ∧ rgQ p q 0 = 1 ∧ rgC p q 0 = 4 := ⟨if_neg (fun g => h g.2), if_neg (fun g => h g.2), by rw [rgC, if_pos rfl, if_neg h]⟩
theorem rg_ok {p q : Int} (h : rgK p q) : rgP p q 0 = p ∧ rgQ p q 0 = q ∧ rgC p q 0 = 0 := ⟨if_pos ⟨rfl, h⟩, if_pos ⟨rfl, h⟩, by rw [rgC, if_pos rfl, if_pos h]⟩
theorem mk_b2 {x d : Int} {k : Nat} (hx : x.natAbs < B2 k) (hd : d.natAbs < B2 k) : (mkP x d).natAbs < B2 (k + 1) ∧ (mkQ x d).natAbs < B2 (k + 1) := by
 have h1 : 1 ≤ B2 k := Nat.pow_pos (by decide)
 have h2 : B2 (k + 1) = 2 * B2 k := by unfold B2; rw [Nat.pow_succ, Nat.mul_comm]
 unfold mkP mkQ
 by_cases h : d = 0
 ·rw [if_pos h, if_pos h, h2]
  have e1 : (0 : Int).natAbs = 0 := rfl
  have e2 : (1 : Int).natAbs = 1 := rfl
  omega
 ·rw [if_neg h, if_neg h, h2]
  have := Int.natAbs_ediv_le_natAbs x (mkD x d)
  have := Int.natAbs_ediv_le_natAbs d (mkD x d)
  omega
set_option maxRecDepth 100000 in
set_option maxHeartbeats 1600000 in
theorem r4of_any (x : Int) (w : World) (hx : (Lit.int .i64 x).wf = true) :
  Calls Tryz.prog 28 #[.int .i64 x] w (RetR x 1 w) := by
 have HW := hJ hx
 clear hx
 obtain ⟨x1, hx1⟩ := nmz (w.alloc (.cells #[.bool false, .slice none 0 0, .bool false, .slice none 0 0] 41))
 have HB1 := hJ (show Below w.heap.size w x1 by rw [← hx1]; exact ((Below.refl _ _).alloc (Nat.le_refl _) _))
 have HQ1x0 := hJ (show BX 41 x1 w.heap.size #[.bool false, .slice none 0 0, .bool false, .slice none 0 0] by rw [← hx1]; exact (BX.at rfl))
 have HG1x0 := hJ (show w.heap.size ≤ w.heap.size by omega)
 have HL1x0 := hJ (show w.heap.size < x1.heap.size from HQ1x0.out.lt)
 go_enter Tryz.func28, Tryz.ntmps28
 go_wp2_with fail
 clear hx1
 refine (of_any x x1 HW.out).mono ?_
 rintro e w2 ⟨s11, A11, n11, c11, rfl, hr11, hb⟩
 have HB2 := hJ hb
 have HR2hr11 := hJ hr11
 clear hb hr11
 go_wp2_with fail
 refine (of_any 1 w2 (by decide)).mono ?_
 rintro e w3 ⟨s12, A12, n12, c12, rfl, hr12, hb⟩
 have HB3 := hJ hb
 have HR3hr12 := hJ hr12
 clear hb hr12
 have HC1_3 := hJ (bt HB2.out HB3.out)
 have HQ1x0w3 := hJ (BX.new HQ1x0.out HC1_3.out)
 have fz4_0 := HQ1x0w3.out.frozen 0
 have fc4_0 := HQ1x0w3.out.cell 0 rfl
 have fz4_1 := HQ1x0w3.out.frozen 1
 have fc4_1 := HQ1x0w3.out.cell 1 rfl
 have fz4_2 := HQ1x0w3.out.frozen 2
 have fc4_2 := HQ1x0w3.out.cell 2 rfl
 have fz4_3 := HQ1x0w3.out.frozen 3
 have fc4_3 := HQ1x0w3.out.cell 3 rfl
 obtain ⟨x4, hx4⟩ := nmz (World.setCell (World.setCell (World.setCell (World.setCell w3 ⟨w.heap.size, 0, none⟩ (.bool s11)) ⟨w.heap.size, 1, none⟩ (.slice A11 n11 c11)) ⟨w.heap.size, 2, none⟩ (.bool s12)) ⟨w.heap.size, 3, none⟩ (.slice A12 n12 c12))
 have HE4 := hJ (show sto w3 w.heap.size 0 [.bool s11, .slice A11 n11 c11, .bool s12, .slice A12 n12 c12] = x4 from hx4)
 have HQ4s := hJ (show BX 41 x4 w.heap.size #[.bool s11, .slice A11 n11 c11, .bool s12, .slice A12 n12 c12] by rw [← HE4.out]; exact BX.put HQ1x0w3.out _ _)
 have HC0_4 := hJ (show Below w.heap.size w x4 by rw [← HE4.out]; exact below_sto (bt (bt HB1.out HB2.out) HB3.out) HG1x0.out _ _)
 have HR2hr11w3 := hJ (RNo.new HR2hr11.out HB3.out)
 have HR2hr11w4 := hJ (show RN x4 s11 A11 n11 c11 x by rw [← HE4.out]; exact RNo.sto HR2hr11w3.out HQ1x0w3.out rfl _ _)
 have HR3hr12w4 := hJ (show RN x4 s12 A12 n12 c12 1 by rw [← HE4.out]; exact RNo.sto HR3hr12.out HQ1x0w3.out rfl _ _)
 go_wp2
 clear fz4_0 fc4_0 fz4_1 fc4_1 fz4_2 fc4_2 fz4_3 fc4_3 hx4
 exact bodyPost_ret (results_cell_row rfl _ _ _ _ _ _ _ rfl HQ4s.out Tryz.underlying41 rfl (by kernel_rfl)) rfl ⟨s11, A11, n11, c11, s12, A12, n12, c12, rfl, HR2hr11w4.out, HR3hr12w4.out, HC0_4.out⟩
set_option maxRecDepth 100000 in
set_option maxHeartbeats 1600000 in
theorem r4make_any (x d : Int) (k : Nat) (s0 : Bool) (A0 : Option Addr) (n0 c0 : Nat) (s1 : Bool) (A1 : Option Addr) (n1 c1 : Nat) (w : World) (hx : RN w s0 A0 n0 c0 x) (hd : RN w s1 A1 n1 c1 d) (hk : k ≤ 100000) (hbx : x.natAbs < B2 k) (hbd : d.natAbs < B2 k) :
  Calls Tryz.prog 24 #[.agg #[.bool s0, .slice A0 n0 c0], .agg #[.bool s1, .slice A1 n1 c1]] w (RetRE (mkP x d) (mkQ x d) (mkC d) w) := by
 have HP0 := hJ hx
 have HP1 := hJ hd
 have HK := hJ hk
 have HBX := hJ hbx
 have HBD := hJ hbd
 clear hx hd hk hbx hbd
 rcases Int.lt_trichotomy d 0 with hd0 | hd0 | hd0
 ·have HD := hJ hd0
  obtain rfl : s1 = true := HP1.out.1.trans (decide_eq_true hd0)
  have hn1 := rn_pos HP1.out (show d ≠ 0 by omega)
  have HRES := hJ (mk_negs (x := x) HD.out)
  have HMC := hJ (show mkC d = 0 from if_neg (by omega))
  have HNG := hJ (B2.gcd (x := -x) (show -d ≠ 0 by omega) (B2.neg HBD.out))
  have HNE := hJ (show ((Nat.gcd (-x).natAbs (-d).natAbs : Nat) : Int) ≠ 0 by have := Nat.gcd_pos_of_pos_right (-x).natAbs (show 0 < (-d).natAbs by omega); omega)
  clear hd0
  obtain ⟨x1, hx1⟩ := nmz (((w.alloc (.cells #[.bool s0, .slice A0 n0 c0] 24)).alloc (.cells #[.bool true, .slice A1 n1 c1] 24)).alloc (.cells #[.bool false, .slice none 0 0, .bool false, .slice none 0 0] 41))
  have HB1 := hJ (show Below w.heap.size w x1 by rw [← hx1]; exact ((((Below.refl _ _).alloc (Nat.le_refl _) _).alloc (by simp only [World.size_alloc]; omega) _).alloc (by simp only [World.size_alloc]; omega) _))
  have HQ1x0 := hJ (show BX 24 x1 w.heap.size #[.bool s0, .slice A0 n0 c0] by rw [← hx1]; exact (((BX.at rfl).alloc _).alloc _))
  have HG1x0 := hJ (show w.heap.size ≤ w.heap.size by omega)
  have HL1x0 := hJ (show w.heap.size < x1.heap.size from HQ1x0.out.lt)
  have HQ1x1 := hJ (show BX 24 x1 (w.heap.size + 1) #[.bool true, .slice A1 n1 c1] by rw [← hx1]; exact ((BX.at (by simp only [World.size_alloc])).alloc _))
  have HG1x1 := hJ (show w.heap.size ≤ w.heap.size + 1 by omega)
  have HL1x1 := hJ (show w.heap.size + 1 < x1.heap.size from HQ1x1.out.lt)
  have HQ1x2 := hJ (show BX 41 x1 (w.heap.size + 2) #[.bool false, .slice none 0 0, .bool false, .slice none 0 0] by rw [← hx1]; exact (BX.at (by simp only [World.size_alloc])))
  have HG1x2 := hJ (show w.heap.size ≤ w.heap.size + 2 by omega)
  have HL1x2 := hJ (show w.heap.size + 2 < x1.heap.size from HQ1x2.out.lt)
  have cl2 := HQ1x1.out.cell 1 rfl
  have cl3 := HQ1x1.out.cell 0 rfl
  obtain ⟨cl4, cl5⟩ := HQ1x0.out.c2 0 1 rfl rfl
  have HP0w1 := hJ (RNo.new HP0.out HB1.out)
  go_enter Tryz.func24, Tryz.ntmps24
  go_wp2_with fail
  clear hx1 cl2 cl3 cl4 cl5
  refine (neg_any x s0 A0 n0 c0 x1 HP0w1.out (Nat.le_trans (B2.rlen HP0w1.out HBX.out) (by have := HK.out; omega))).mono ?_
  rintro e w6 ⟨s11, A11, n11, c11, rfl, hr11, hb⟩
  have HB6 := hJ hb
  have HR6hr11 := hJ hr11
  clear hb hr11
  have HQ1x0w2 := hJ (BX.new HQ1x0.out HB6.out)
  have fz7_0 := HQ1x0w2.out.frozen 0
  have fc7_0 := HQ1x0w2.out.cell 0 rfl
  have fz7_1 := HQ1x0w2.out.frozen 1
  have fc7_1 := HQ1x0w2.out.cell 1 rfl
  obtain ⟨x7, hx7⟩ := nmz (World.setCell (World.setCell w6 ⟨w.heap.size, 0, none⟩ (.bool s11)) ⟨w.heap.size, 1, none⟩ (.slice A11 n11 c11))
  have HE7 := hJ (show sto w6 w.heap.size 0 [.bool s11, .slice A11 n11 c11] = x7 from hx7)
  have HQ7s := hJ (show BX 24 x7 w.heap.size #[.bool s11, .slice A11 n11 c11] by rw [← HE7.out]; exact BX.put HQ1x0w2.out _ _)
  have HQ1x1w2 := hJ (BX.new HQ1x1.out HB6.out)
  have HQ1x1w3 := hJ (show BX 24 x7 (w.heap.size + 1) #[.bool true, .slice A1 n1 c1] by rw [← HE7.out]; exact BX.far HQ1x1w2.out (show w.heap.size + 1 ≠ w.heap.size by omega) _ _)
  obtain ⟨cl8, cl9⟩ := HQ1x1w3.out.c2 0 1 rfl rfl
  have HC0_3 := hJ (show Below w.heap.size w x7 by rw [← HE7.out]; exact below_sto (bt HB1.out HB6.out) HG1x0.out _ _)
  have HP1w3 := hJ (RNo.new HP1.out HC0_3.out)
  go_wp2_with fail
  clear fz7_0 fc7_0 fz7_1 fc7_1 hx7 cl8 cl9
  refine (neg_any d true A1 n1 c1 x7 HP1w3.out (Nat.le_trans (B2.rlen HP1w3.out HBD.out) (by have := HK.out; omega))).mono ?_
  rintro e w10 ⟨s12, A12, n12, c12, rfl, hr12, hb⟩
  have HB10 := hJ hb
  have HR10hr12 := hJ hr12
  clear hb hr12
  have HQ1x1w4 := hJ (BX.new HQ1x1w3.out HB10.out)
  have fz11_0 := HQ1x1w4.out.frozen 0
  have fc11_0 := HQ1x1w4.out.cell 0 rfl
  have fz11_1 := HQ1x1w4.out.frozen 1
  have fc11_1 := HQ1x1w4.out.cell 1 rfl
  obtain ⟨x11, hx11⟩ := nmz (World.setCell (World.setCell w10 ⟨w.heap.size + 1, 0, none⟩ (.bool s12)) ⟨w.heap.size + 1, 1, none⟩ (.slice A12 n12 c12))
  have HE11 := hJ (show sto w10 (w.heap.size + 1) 0 [.bool s12, .slice A12 n12 c12] = x11 from hx11)
  have HQ11s := hJ (show BX 24 x11 (w.heap.size + 1) #[.bool s12, .slice A12 n12 c12] by rw [← HE11.out]; exact BX.put HQ1x1w4.out _ _)
  have HQ7sw4 := hJ (BX.new HQ7s.out HB10.out)
  have HQ7sw5 := hJ (show BX 24 x11 w.heap.size #[.bool s11, .slice A11 n11 c11] by rw [← HE11.out]; exact BX.far HQ7sw4.out (show w.heap.size ≠ w.heap.size + 1 by omega) _ _)
  obtain ⟨cl12, cl13⟩ := HQ7sw5.out.c2 0 1 rfl rfl
  obtain ⟨cl14, cl15⟩ := HQ11s.out.c2 0 1 rfl rfl
  have HR6hr11w3 := hJ (show RN x7 s11 A11 n11 c11 (-x) by rw [← HE7.out]; exact RNo.sto HR6hr11.out HQ1x0w2.out rfl _ _)
  have HR6hr11w4 := hJ (RNo.new HR6hr11w3.out HB10.out)
  have HR6hr11w5 := hJ (show RN x11 s11 A11 n11 c11 (-x) by rw [← HE11.out]; exact RNo.sto HR6hr11w4.out HQ1x1w4.out rfl _ _)
  have HR10hr12w5 := hJ (show RN x11 s12 A12 n12 c12 (-d) by rw [← HE11.out]; exact RNo.sto HR10hr12.out HQ1x1w4.out rfl _ _)
  go_wp2_with fail
  clear fz11_0 fc11_0 fz11_1 fc11_1 hx11 cl12 cl13 cl14 cl15
  refine (rgcd_any (-x) (-d) s11 s12 A11 A12 n11 c11 n12 c12 x11 HR6hr11w5.out HR10hr12w5.out (Nat.le_trans (B2.rlen HR6hr11w5.out (B2.neg HBX.out)) (by have := HK.out; omega)) (Nat.le_trans (B2.rlen HR10hr12w5.out (B2.neg HBD.out)) (by have := HK.out; omega))).mono ?_
  rintro e w16 ⟨s13, A13, n13, c13, rfl, hr13, hb⟩
  have HB16 := hJ hb
  have HR16hr13 := hJ hr13
  clear hb hr13
  obtain ⟨x17, hx17⟩ := nmz (w16.alloc (.cells #[.bool s13, .slice A13 n13 c13] 24))
  have HB17 := hJ (show Below w16.heap.size w16 x17 by rw [← hx17]; exact ((Below.refl _ _).alloc (Nat.le_refl _) _))
  have HQ17x0 := hJ (show BX 24 x17 w16.heap.size #[.bool s13, .slice A13 n13 c13] by rw [← hx17]; exact (BX.at rfl))
  have HG17x0 := hJ (show w16.heap.size ≤ w16.heap.size by omega)
  have HL17x0 := hJ (show w16.heap.size < x17.heap.size from HQ17x0.out.lt)
  have HC5_7 := hJ (bt HB16.out HB17.out)
  have HQ7sw7 := hJ (BX.new HQ7sw5.out HC5_7.out)
  obtain ⟨cl18, cl19⟩ := HQ7sw7.out.c2 0 1 rfl rfl
  obtain ⟨cl20, cl21⟩ := HQ17x0.out.c2 0 1 rfl rfl
  have HR6hr11w7 := hJ (RNo.new HR6hr11w5.out HC5_7.out)
  have HR16hr13w7 := hJ (RNo.new HR16hr13.out HB17.out)
  go_wp2_with fail
  clear hx17 cl18 cl19 cl20 cl21
  refine (div_any (-x) (((Nat.gcd (-x).natAbs (-d).natAbs : Nat) : Int)) s11 s13 A11 A13 n11 c11 n13 c13 x17 HR6hr11w7.out HR16hr13w7.out (Nat.le_trans (B2.rlen HR6hr11w7.out (B2.neg HBX.out)) (by have := HK.out; omega)) (Nat.le_trans (B2.rlen HR16hr13w7.out HNG.out) (by have := HK.out; omega)) HNE.out).mono ?_
  rintro e w22 ⟨s14, A14, n14, c14, s15, A15, n15, c15, rfl, hr14, hr15, hb⟩
  have HB22 := hJ hb
  have HR22hr14 := hJ hr14
  have HR22hr15 := hJ hr15
  clear hb hr14 hr15
  obtain ⟨x23, hx23⟩ := nmz ((w22.alloc (.cells #[.bool s14, .slice A14 n14 c14] 24)).alloc (.cells #[.bool s15, .slice A15 n15 c15] 24))
  have HB23 := hJ (show Below w22.heap.size w22 x23 by rw [← hx23]; exact (((Below.refl _ _).alloc (Nat.le_refl _) _).alloc (by simp only [World.size_alloc]; omega) _))
  have HQ23x0 := hJ (show BX 24 x23 w22.heap.size #[.bool s14, .slice A14 n14 c14] by rw [← hx23]; exact ((BX.at rfl).alloc _))
  have HG23x0 := hJ (show w22.heap.size ≤ w22.heap.size by omega)
  have HL23x0 := hJ (show w22.heap.size < x23.heap.size from HQ23x0.out.lt)
  have HQ23x1 := hJ (show BX 24 x23 (w22.heap.size + 1) #[.bool s15, .slice A15 n15 c15] by rw [← hx23]; exact (BX.at (by simp only [World.size_alloc])))
  have HG23x1 := hJ (show w22.heap.size ≤ w22.heap.size + 1 by omega)
  have HL23x1 := hJ (show w22.heap.size + 1 < x23.heap.size from HQ23x1.out.lt)
  have HC5_9 := hJ (bt (bt HC5_7.out HB22.out) HB23.out)
  have HQ11sw9 := hJ (BX.new HQ11s.out HC5_9.out)
  obtain ⟨cl24, cl25⟩ := HQ11sw9.out.c2 0 1 rfl rfl
  have HC7_9 := hJ (bt HB22.out HB23.out)
  have HQ17x0w9 := hJ (BX.new HQ17x0.out HC7_9.out)
  obtain ⟨cl26, cl27⟩ := HQ17x0w9.out.c2 0 1 rfl rfl
  have HR10hr12w9 := hJ (RNo.new HR10hr12w5.out HC5_9.out)
  have HR16hr13w9 := hJ (RNo.new HR16hr13w7.out HC7_9.out)
  go_wp2_with fail
  clear hx23 cl24 cl25 cl26 cl27
  refine (div_any (-d) (((Nat.gcd (-x).natAbs (-d).natAbs : Nat) : Int)) s12 s13 A12 A13 n12 c12 n13 c13 x23 HR10hr12w9.out HR16hr13w9.out (Nat.le_trans (B2.rlen HR10hr12w9.out (B2.neg HBD.out)) (by have := HK.out; omega)) (Nat.le_trans (B2.rlen HR16hr13w9.out HNG.out) (by have := HK.out; omega)) HNE.out).mono ?_
  rintro e w28 ⟨s16, A16, n16, c16, s17, A17, n17, c17, rfl, hr16, hr17, hb⟩
  have HB28 := hJ hb
  have HR28hr16 := hJ hr16
  have HR28hr17 := hJ hr17
  clear hb hr16 hr17
  obtain ⟨x29, hx29⟩ := nmz ((w28.alloc (.cells #[.bool s16, .slice A16 n16 c16] 24)).alloc (.cells #[.bool s17, .slice A17 n17 c17] 24))
  have HB29 := hJ (show Below w28.heap.size w28 x29 by rw [← hx29]; exact (((Below.refl _ _).alloc (Nat.le_refl _) _).alloc (by simp only [World.size_alloc]; omega) _))
  have HQ29x0 := hJ (show BX 24 x29 w28.heap.size #[.bool s16, .slice A16 n16 c16] by rw [← hx29]; exact ((BX.at rfl).alloc _))
  have HG29x0 := hJ (show w28.heap.size ≤ w28.heap.size by omega)
  have HL29x0 := hJ (show w28.heap.size < x29.heap.size from HQ29x0.out.lt)
  have HQ29x1 := hJ (show BX 24 x29 (w28.heap.size + 1) #[.bool s17, .slice A17 n17 c17] by rw [← hx29]; exact (BX.at (by simp only [World.size_alloc])))
  have HG29x1 := hJ (show w28.heap.size ≤ w28.heap.size + 1 by omega)
  have HL29x1 := hJ (show w28.heap.size + 1 < x29.heap.size from HQ29x1.out.lt)
  have HC9_11 := hJ (bt HB28.out HB29.out)
  have HQ23x0w11 := hJ (BX.new HQ23x0.out HC9_11.out)
  obtain ⟨cl30, cl31⟩ := HQ23x0w11.out.c2 0 1 rfl rfl
  obtain ⟨cl32, cl33⟩ := HQ29x0.out.c2 0 1 rfl rfl
  have HQ1x2w2 := hJ (BX.new HQ1x2.out HB6.out)
  have HQ1x2w3 := hJ (show BX 41 x7 (w.heap.size + 2) #[.bool false, .slice none 0 0, .bool false, .slice none 0 0] by rw [← HE7.out]; exact BX.far HQ1x2w2.out (show w.heap.size + 2 ≠ w.heap.size by omega) _ _)
  have HQ1x2w4 := hJ (BX.new HQ1x2w3.out HB10.out)
  have HQ1x2w5 := hJ (show BX 41 x11 (w.heap.size + 2) #[.bool false, .slice none 0 0, .bool false, .slice none 0 0] by rw [← HE11.out]; exact BX.far HQ1x2w4.out (show w.heap.size + 2 ≠ w.heap.size + 1 by omega) _ _)
  have HC5_11 := hJ (bt (bt HC5_9.out HB28.out) HB29.out)
  have HQ1x2w11 := hJ (BX.new HQ1x2w5.out HC5_11.out)
  have fz34_0 := HQ1x2w11.out.frozen 0
  have fc34_0 := HQ1x2w11.out.cell 0 rfl
  have fz34_1 := HQ1x2w11.out.frozen 1
  have fc34_1 := HQ1x2w11.out.cell 1 rfl
  have fz34_2 := HQ1x2w11.out.frozen 2
  have fc34_2 := HQ1x2w11.out.cell 2 rfl
  have fz34_3 := HQ1x2w11.out.frozen 3
  have fc34_3 := HQ1x2w11.out.cell 3 rfl
  obtain ⟨x34, hx34⟩ := nmz (World.setCell (World.setCell (World.setCell (World.setCell x29 ⟨w.heap.size + 2, 0, none⟩ (.bool s14)) ⟨w.heap.size + 2, 1, none⟩ (.slice A14 n14 c14)) ⟨w.heap.size + 2, 2, none⟩ (.bool s16)) ⟨w.heap.size + 2, 3, none⟩ (.slice A16 n16 c16))
  have HE34 := hJ (show sto x29 (w.heap.size + 2) 0 [.bool s14, .slice A14 n14 c14, .bool s16, .slice A16 n16 c16] = x34 from hx34)
  have HQ34s := hJ (show BX 41 x34 (w.heap.size + 2) #[.bool s14, .slice A14 n14 c14, .bool s16, .slice A16 n16 c16] by rw [← HE34.out]; exact BX.put HQ1x2w11.out _ _)
  have HC0_5 := hJ (show Below w.heap.size w x11 by rw [← HE11.out]; exact below_sto (bt HC0_3.out HB10.out) HG1x1.out _ _)
  have HC0_12 := hJ (show Below w.heap.size w x34 by rw [← HE34.out]; exact below_sto (bt (bt (bt (bt (bt (bt HC0_5.out HB16.out) HB17.out) HB22.out) HB23.out) HB28.out) HB29.out) HG1x2.out _ _)
  have HC8_11 := hJ (bt (bt HB23.out HB28.out) HB29.out)
  have HR22hr14w11 := hJ (RNo.new HR22hr14.out HC8_11.out)
  have HR22hr14w12 := hJ (show RN x34 s14 A14 n14 c14 ((-x) / (((Nat.gcd (-x).natAbs (-d).natAbs : Nat) : Int))) by rw [← HE34.out]; exact RNo.sto HR22hr14w11.out HQ1x2w11.out rfl _ _)
  have HR28hr16w11 := hJ (RNo.new HR28hr16.out HB29.out)
  have HR28hr16w12 := hJ (show RN x34 s16 A16 n16 c16 ((-d) / (((Nat.gcd (-x).natAbs (-d).natAbs : Nat) : Int))) by rw [← HE34.out]; exact RNo.sto HR28hr16w11.out HQ1x2w11.out rfl _ _)
  go_wp2
  clear hx29 cl30 cl31 cl32 cl33 fz34_0 fc34_0 fz34_1 fc34_1 fz34_2 fc34_2 fz34_3 fc34_3 hx34
  exact bodyPost_ret (results_cell1 rfl _ _ _ _ _ _ _ rfl HQ34s.out Tryz.underlying41 rfl (by kernel_rfl)) rfl (by rw [← HRES.out.1, ← HRES.out.2, HMC.out]; exact ⟨s14, A14, n14, c14, s16, A16, n16, c16, rfl, HR22hr14w12.out, HR28hr16w12.out, HC0_12.out⟩)
 ·subst hd0
  obtain rfl : n1 = 0 := rn_zero HP1.out
  obtain ⟨x35, hx35⟩ := nmz (((w.alloc (.cells #[.bool s0, .slice A0 n0 c0] 24)).alloc (.cells #[.bool s1, .slice A1 0 c1] 24)).alloc (.cells #[.bool false, .slice none 0 0, .bool false, .slice none 0 0] 41))
  have HB35 := hJ (show Below w.heap.size w x35 by rw [← hx35]; exact ((((Below.refl _ _).alloc (Nat.le_refl _) _).alloc (by simp only [World.size_alloc]; omega) _).alloc (by simp only [World.size_alloc]; omega) _))
  have HQ35x0 := hJ (show BX 24 x35 w.heap.size #[.bool s0, .slice A0 n0 c0] by rw [← hx35]; exact (((BX.at rfl).alloc _).alloc _))
  have HG35x0 := hJ (show w.heap.size ≤ w.heap.size by omega)
  have HL35x0 := hJ (show w.heap.size < x35.heap.size from HQ35x0.out.lt)
  have HQ35x1 := hJ (show BX 24 x35 (w.heap.size + 1) #[.bool s1, .slice A1 0 c1] by rw [← hx35]; exact ((BX.at (by simp only [World.size_alloc])).alloc _))
  have HG35x1 := hJ (show w.heap.size ≤ w.heap.size + 1 by omega)
  have HL35x1 := hJ (show w.heap.size + 1 < x35.heap.size from HQ35x1.out.lt)
  have HQ35x2 := hJ (show BX 41 x35 (w.heap.size + 2) #[.bool false, .slice none 0 0, .bool false, .slice none 0 0] by rw [← hx35]; exact (BX.at (by simp only [World.size_alloc])))
  have HG35x2 := hJ (show w.heap.size ≤ w.heap.size + 2 by omega)
  have HL35x2 := hJ (show w.heap.size + 2 < x35.heap.size from HQ35x2.out.lt)
  have cl36 := HQ35x1.out.cell 1 rfl
  go_enter Tryz.func24, Tryz.ntmps24
  go_wp2_with fail
  clear hx35 cl36
  refine (r4of_any 0 x35 (by decide)).mono ?_
  rintro e w37 ⟨s18, A18, n18, c18, t18, B18, m18, d18, rfl, hr18, hs18, hb⟩
  have HB37 := hJ hb
  have HR37hr18 := hJ hr18
  have HR37hs18 := hJ hs18
  clear hb hr18 hs18
  have HQ35x2w2 := hJ (BX.new HQ35x2.out HB37.out)
  have fz38_0 := HQ35x2w2.out.frozen 0
  have fc38_0 := HQ35x2w2.out.cell 0 rfl
  have fz38_1 := HQ35x2w2.out.frozen 1
  have fc38_1 := HQ35x2w2.out.cell 1 rfl
  have fz38_2 := HQ35x2w2.out.frozen 2
  have fc38_2 := HQ35x2w2.out.cell 2 rfl
  have fz38_3 := HQ35x2w2.out.frozen 3
  have fc38_3 := HQ35x2w2.out.cell 3 rfl
  obtain ⟨x38, hx38⟩ := nmz (World.setCell (World.setCell (World.setCell (World.setCell w37 ⟨w.heap.size + 2, 0, none⟩ (.bool s18)) ⟨w.heap.size + 2, 1, none⟩ (.slice A18 n18 c18)) ⟨w.heap.size + 2, 2, none⟩ (.bool t18)) ⟨w.heap.size + 2, 3, none⟩ (.slice B18 m18 d18))
  have HE38 := hJ (show sto w37 (w.heap.size + 2) 0 [.bool s18, .slice A18 n18 c18, .bool t18, .slice B18 m18 d18] = x38 from hx38)
  have HQ38s := hJ (show BX 41 x38 (w.heap.size + 2) #[.bool s18, .slice A18 n18 c18, .bool t18, .slice B18 m18 d18] by rw [← HE38.out]; exact BX.put HQ35x2w2.out _ _)
  have HC0_3 := hJ (show Below w.heap.size w x38 by rw [← HE38.out]; exact below_sto (bt HB35.out HB37.out) HG35x2.out _ _)
  have HR37hr18w3 := hJ (show RN x38 s18 A18 n18 c18 0 by rw [← HE38.out]; exact RNo.sto HR37hr18.out HQ35x2w2.out rfl _ _)
  have HR37hs18w3 := hJ (show RN x38 t18 B18 m18 d18 1 by rw [← HE38.out]; exact RNo.sto HR37hs18.out HQ35x2w2.out rfl _ _)
  go_wp2
  clear fz38_0 fc38_0 fz38_1 fc38_1 fz38_2 fc38_2 fz38_3 fc38_3 hx38
  exact bodyPost_ret (results_cell1 rfl _ _ _ _ _ _ _ rfl HQ38s.out Tryz.underlying41 rfl (by kernel_rfl)) rfl (show RetRE 0 1 1 w _ _ from ⟨s18, A18, n18, c18, t18, B18, m18, d18, rfl, HR37hr18w3.out, HR37hs18w3.out, HC0_3.out⟩)
 ·have HD := hJ hd0
  obtain rfl : s1 = false := HP1.out.1.trans (decide_eq_false (by omega))
  have hn1 := rn_pos HP1.out (show d ≠ 0 by omega)
  have HRES := hJ (mk_pos (x := x) HD.out)
  have HMC := hJ (show mkC d = 0 from if_neg (by omega))
  have HNG := hJ (B2.gcd (x := x) (show d ≠ 0 by omega) HBD.out)
  have HNE := hJ (show ((Nat.gcd x.natAbs d.natAbs : Nat) : Int) ≠ 0 by have := Nat.gcd_pos_of_pos_right x.natAbs (show 0 < d.natAbs by omega); omega)
  clear hd0
  obtain ⟨x39, hx39⟩ := nmz (((w.alloc (.cells #[.bool s0, .slice A0 n0 c0] 24)).alloc (.cells #[.bool false, .slice A1 n1 c1] 24)).alloc (.cells #[.bool false, .slice none 0 0, .bool false, .slice none 0 0] 41))
  have HB39 := hJ (show Below w.heap.size w x39 by rw [← hx39]; exact ((((Below.refl _ _).alloc (Nat.le_refl _) _).alloc (by simp only [World.size_alloc]; omega) _).alloc (by simp only [World.size_alloc]; omega) _))
  have HQ39x0 := hJ (show BX 24 x39 w.heap.size #[.bool s0, .slice A0 n0 c0] by rw [← hx39]; exact (((BX.at rfl).alloc _).alloc _))
  have HG39x0 := hJ (show w.heap.size ≤ w.heap.size by omega)
  have HL39x0 := hJ (show w.heap.size < x39.heap.size from HQ39x0.out.lt)
  have HQ39x1 := hJ (show BX 24 x39 (w.heap.size + 1) #[.bool false, .slice A1 n1 c1] by rw [← hx39]; exact ((BX.at (by simp only [World.size_alloc])).alloc _))
  have HG39x1 := hJ (show w.heap.size ≤ w.heap.size + 1 by omega)
  have HL39x1 := hJ (show w.heap.size + 1 < x39.heap.size from HQ39x1.out.lt)
  have HQ39x2 := hJ (show BX 41 x39 (w.heap.size + 2) #[.bool false, .slice none 0 0, .bool false, .slice none 0 0] by rw [← hx39]; exact (BX.at (by simp only [World.size_alloc])))
  have HG39x2 := hJ (show w.heap.size ≤ w.heap.size + 2 by omega)
  have HL39x2 := hJ (show w.heap.size + 2 < x39.heap.size from HQ39x2.out.lt)
  have cl40 := HQ39x1.out.cell 1 rfl
  have cl41 := HQ39x1.out.cell 0 rfl
  obtain ⟨cl42, cl43⟩ := HQ39x0.out.c2 0 1 rfl rfl
  obtain ⟨cl44, cl45⟩ := HQ39x1.out.c2 0 1 rfl rfl
  have HP0w1 := hJ (RNo.new HP0.out HB39.out)
  have HP1w1 := hJ (RNo.new HP1.out HB39.out)
  go_enter Tryz.func24, Tryz.ntmps24
  go_wp2_with fail
  clear hx39 cl40 cl41 cl42 cl43 cl44 cl45
  refine (rgcd_any x d s0 false A0 A1 n0 c0 n1 c1 x39 HP0w1.out HP1w1.out (Nat.le_trans (B2.rlen HP0w1.out HBX.out) (by have := HK.out; omega)) (Nat.le_trans (B2.rlen HP1w1.out HBD.out) (by have := HK.out; omega))).mono ?_
  rintro e w46 ⟨s19, A19, n19, c19, rfl, hr19, hb⟩
  have HB46 := hJ hb
  have HR46hr19 := hJ hr19
  clear hb hr19
  obtain ⟨x47, hx47⟩ := nmz (w46.alloc (.cells #[.bool s19, .slice A19 n19 c19] 24))
  have HB47 := hJ (show Below w46.heap.size w46 x47 by rw [← hx47]; exact ((Below.refl _ _).alloc (Nat.le_refl _) _))
  have HQ47x0 := hJ (show BX 24 x47 w46.heap.size #[.bool s19, .slice A19 n19 c19] by rw [← hx47]; exact (BX.at rfl))
  have HG47x0 := hJ (show w46.heap.size ≤ w46.heap.size by omega)
  have HL47x0 := hJ (show w46.heap.size < x47.heap.size from HQ47x0.out.lt)
  have HC1_3 := hJ (bt HB46.out HB47.out)
  have HQ39x0w3 := hJ (BX.new HQ39x0.out HC1_3.out)
  obtain ⟨cl48, cl49⟩ := HQ39x0w3.out.c2 0 1 rfl rfl
  obtain ⟨cl50, cl51⟩ := HQ47x0.out.c2 0 1 rfl rfl
  have HP0w3 := hJ (RNo.new HP0w1.out HC1_3.out)
  have HR46hr19w3 := hJ (RNo.new HR46hr19.out HB47.out)
  go_wp2_with fail
  clear hx47 cl48 cl49 cl50 cl51
  refine (div_any x (((Nat.gcd (x).natAbs (d).natAbs : Nat) : Int)) s0 s19 A0 A19 n0 c0 n19 c19 x47 HP0w3.out HR46hr19w3.out (Nat.le_trans (B2.rlen HP0w3.out HBX.out) (by have := HK.out; omega)) (Nat.le_trans (B2.rlen HR46hr19w3.out HNG.out) (by have := HK.out; omega)) HNE.out).mono ?_
  rintro e w52 ⟨s20, A20, n20, c20, s21, A21, n21, c21, rfl, hr20, hr21, hb⟩
  have HB52 := hJ hb
  have HR52hr20 := hJ hr20
  have HR52hr21 := hJ hr21
  clear hb hr20 hr21
  obtain ⟨x53, hx53⟩ := nmz ((w52.alloc (.cells #[.bool s20, .slice A20 n20 c20] 24)).alloc (.cells #[.bool s21, .slice A21 n21 c21] 24))
  have HB53 := hJ (show Below w52.heap.size w52 x53 by rw [← hx53]; exact (((Below.refl _ _).alloc (Nat.le_refl _) _).alloc (by simp only [World.size_alloc]; omega) _))
  have HQ53x0 := hJ (show BX 24 x53 w52.heap.size #[.bool s20, .slice A20 n20 c20] by rw [← hx53]; exact ((BX.at rfl).alloc _))
  have HG53x0 := hJ (show w52.heap.size ≤ w52.heap.size by omega)
  have HL53x0 := hJ (show w52.heap.size < x53.heap.size from HQ53x0.out.lt)
  have HQ53x1 := hJ (show BX 24 x53 (w52.heap.size + 1) #[.bool s21, .slice A21 n21 c21] by rw [← hx53]; exact (BX.at (by simp only [World.size_alloc])))
  have HG53x1 := hJ (show w52.heap.size ≤ w52.heap.size + 1 by omega)
  have HL53x1 := hJ (show w52.heap.size + 1 < x53.heap.size from HQ53x1.out.lt)
  have HC1_5 := hJ (bt (bt HC1_3.out HB52.out) HB53.out)
  have HQ39x1w5 := hJ (BX.new HQ39x1.out HC1_5.out)
  obtain ⟨cl54, cl55⟩ := HQ39x1w5.out.c2 0 1 rfl rfl
  have HC3_5 := hJ (bt HB52.out HB53.out)
  have HQ47x0w5 := hJ (BX.new HQ47x0.out HC3_5.out)
  obtain ⟨cl56, cl57⟩ := HQ47x0w5.out.c2 0 1 rfl rfl
  have HP1w5 := hJ (RNo.new HP1w1.out HC1_5.out)
  have HR46hr19w5 := hJ (RNo.new HR46hr19w3.out HC3_5.out)
  go_wp2_with fail
  clear hx53 cl54 cl55 cl56 cl57
  refine (div_any d (((Nat.gcd (x).natAbs (d).natAbs : Nat) : Int)) false s19 A1 A19 n1 c1 n19 c19 x53 HP1w5.out HR46hr19w5.out (Nat.le_trans (B2.rlen HP1w5.out HBD.out) (by have := HK.out; omega)) (Nat.le_trans (B2.rlen HR46hr19w5.out HNG.out) (by have := HK.out; omega)) HNE.out).mono ?_
  rintro e w58 ⟨s22, A22, n22, c22, s23, A23, n23, c23, rfl, hr22, hr23, hb⟩
  have HB58 := hJ hb
  have HR58hr22 := hJ hr22
  have HR58hr23 := hJ hr23
  clear hb hr22 hr23
  obtain ⟨x59, hx59⟩ := nmz ((w58.alloc (.cells #[.bool s22, .slice A22 n22 c22] 24)).alloc (.cells #[.bool s23, .slice A23 n23 c23] 24))
  have HB59 := hJ (show Below w58.heap.size w58 x59 by rw [← hx59]; exact (((Below.refl _ _).alloc (Nat.le_refl _) _).alloc (by simp only [World.size_alloc]; omega) _))
  have HQ59x0 := hJ (show BX 24 x59 w58.heap.size #[.bool s22, .slice A22 n22 c22] by rw [← hx59]; exact ((BX.at rfl).alloc _))
  have HG59x0 := hJ (show w58.heap.size ≤ w58.heap.size by omega)
  have HL59x0 := hJ (show w58.heap.size < x59.heap.size from HQ59x0.out.lt)
  have HQ59x1 := hJ (show BX 24 x59 (w58.heap.size + 1) #[.bool s23, .slice A23 n23 c23] by rw [← hx59]; exact (BX.at (by simp only [World.size_alloc])))
  have HG59x1 := hJ (show w58.heap.size ≤ w58.heap.size + 1 by omega)
  have HL59x1 := hJ (show w58.heap.size + 1 < x59.heap.size from HQ59x1.out.lt)
  have HC5_7 := hJ (bt HB58.out HB59.out)
  have HQ53x0w7 := hJ (BX.new HQ53x0.out HC5_7.out)
  obtain ⟨cl60, cl61⟩ := HQ53x0w7.out.c2 0 1 rfl rfl
  obtain ⟨cl62, cl63⟩ := HQ59x0.out.c2 0 1 rfl rfl
  have HC1_7 := hJ (bt (bt HC1_5.out HB58.out) HB59.out)
  have HQ39x2w7 := hJ (BX.new HQ39x2.out HC1_7.out)
  have fz64_0 := HQ39x2w7.out.frozen 0
  have fc64_0 := HQ39x2w7.out.cell 0 rfl
  have fz64_1 := HQ39x2w7.out.frozen 1
  have fc64_1 := HQ39x2w7.out.cell 1 rfl
  have fz64_2 := HQ39x2w7.out.frozen 2
  have fc64_2 := HQ39x2w7.out.cell 2 rfl
  have fz64_3 := HQ39x2w7.out.frozen 3
  have fc64_3 := HQ39x2w7.out.cell 3 rfl
  obtain ⟨x64, hx64⟩ := nmz (World.setCell (World.setCell (World.setCell (World.setCell x59 ⟨w.heap.size + 2, 0, none⟩ (.bool s20)) ⟨w.heap.size + 2, 1, none⟩ (.slice A20 n20 c20)) ⟨w.heap.size + 2, 2, none⟩ (.bool s22)) ⟨w.heap.size + 2, 3, none⟩ (.slice A22 n22 c22))
  have HE64 := hJ (show sto x59 (w.heap.size + 2) 0 [.bool s20, .slice A20 n20 c20, .bool s22, .slice A22 n22 c22] = x64 from hx64)
  have HQ64s := hJ (show BX 41 x64 (w.heap.size + 2) #[.bool s20, .slice A20 n20 c20, .bool s22, .slice A22 n22 c22] by rw [← HE64.out]; exact BX.put HQ39x2w7.out _ _)
  have HC0_8 := hJ (show Below w.heap.size w x64 by rw [← HE64.out]; exact below_sto (bt (bt (bt (bt (bt (bt HB39.out HB46.out) HB47.out) HB52.out) HB53.out) HB58.out) HB59.out) HG39x2.out _ _)
  have HC4_7 := hJ (bt (bt HB53.out HB58.out) HB59.out)
  have HR52hr20w7 := hJ (RNo.new HR52hr20.out HC4_7.out)
  have HR52hr20w8 := hJ (show RN x64 s20 A20 n20 c20 (x / (((Nat.gcd (x).natAbs (d).natAbs : Nat) : Int))) by rw [← HE64.out]; exact RNo.sto HR52hr20w7.out HQ39x2w7.out rfl _ _)
  have HR58hr22w7 := hJ (RNo.new HR58hr22.out HB59.out)
  have HR58hr22w8 := hJ (show RN x64 s22 A22 n22 c22 (d / (((Nat.gcd (x).natAbs (d).natAbs : Nat) : Int))) by rw [← HE64.out]; exact RNo.sto HR58hr22w7.out HQ39x2w7.out rfl _ _)
  go_wp2
  clear hx59 cl60 cl61 cl62 cl63 fz64_0 fc64_0 fz64_1 fc64_1 fz64_2 fc64_2 fz64_3 fc64_3 hx64
  exact bodyPost_ret (results_cell1 rfl _ _ _ _ _ _ _ rfl HQ64s.out Tryz.underlying41 rfl (by kernel_rfl)) rfl (by rw [← HRES.out.1, ← HRES.out.2, HMC.out]; exact ⟨s20, A20, n20, c20, s22, A22, n22, c22, rfl, HR52hr20w8.out, HR58hr22w8.out, HC0_8.out⟩)
set_option maxRecDepth 100000 in
set_option maxHeartbeats 1600000 in
theorem r4neg_any (p q : Int) (s0 : Bool) (A0 : Option Addr) (n0 c0 : Nat) (t0 : Bool) (B0 : Option Addr) (m0 d0 : Nat) (w : World) (hp : RN w s0 A0 n0 c0 p) (hq : RN w t0 B0 m0 d0 q) (hn : n0 ≤ 900000) :
  Calls Tryz.prog 31 #[.agg #[.bool s0, .slice A0 n0 c0, .bool t0, .slice B0 m0 d0]] w (RetR (-p) q w) := by
 have HP0 := hJ hp
 have HP1 := hJ hq
 have HN := hJ hn
 clear hp hq hn
 obtain ⟨x1, hx1⟩ := nmz ((w.alloc (.cells #[.bool s0, .slice A0 n0 c0, .bool t0, .slice B0 m0 d0] 41)).alloc (.cells #[.bool false, .slice none 0 0, .bool false, .slice none 0 0] 41))
 have HB1 := hJ (show Below w.heap.size w x1 by rw [← hx1]; exact (((Below.refl _ _).alloc (Nat.le_refl _) _).alloc (by simp only [World.size_alloc]; omega) _))
 have HQ1x0 := hJ (show BX 41 x1 w.heap.size #[.bool s0, .slice A0 n0 c0, .bool t0, .slice B0 m0 d0] by rw [← hx1]; exact ((BX.at rfl).alloc _))
 have HG1x0 := hJ (show w.heap.size ≤ w.heap.size by omega)
 have HL1x0 := hJ (show w.heap.size < x1.heap.size from HQ1x0.out.lt)
 have HQ1x1 := hJ (show BX 41 x1 (w.heap.size + 1) #[.bool false, .slice none 0 0, .bool false, .slice none 0 0] by rw [← hx1]; exact (BX.at (by simp only [World.size_alloc])))
 have HG1x1 := hJ (show w.heap.size ≤ w.heap.size + 1 by omega)
 have HL1x1 := hJ (show w.heap.size + 1 < x1.heap.size from HQ1x1.out.lt)
 have HS2 : Hid (∀ w', Below x1.heap.size x1 w' → (fun w' : World => w'.cell? ⟨w.heap.size, 0, none⟩ = some (.bool s0) ∧ w'.cell? ⟨w.heap.size, 1, none⟩ = some (.slice A0 n0 c0) ∧ w'.cell? ⟨w.heap.size, 2, none⟩ = some (.bool t0) ∧ w'.cell? ⟨w.heap.size, 3, none⟩ = some (.slice B0 m0 d0) ∧ Below w.heap.size w w') w') := hJ (fun w' hb => ⟨(BX.new HQ1x0.out hb).cell 0 rfl, (BX.new HQ1x0.out hb).cell 1 rfl, (BX.new HQ1x0.out hb).cell 2 rfl, (BX.new HQ1x0.out hb).cell 3 rfl, (bt HB1.out hb)⟩)
 have HP0w1 := hJ (RNo.new HP0.out HB1.out)
 go_enter Tryz.func31, Tryz.ntmps31
 go_wp2_with fail
 clear hx1
 obtain ⟨v2, hv2⟩ := nmz (World.drew x1)
 have HX2 := hJ (show Below x1.heap.size x1 v2 by rw [← hv2]; exact (Below.refl _ _).drew)
 refine wp_region_held_drew (S := (fun w' : World => w'.cell? ⟨w.heap.size, 0, none⟩ = some (.bool s0) ∧ w'.cell? ⟨w.heap.size, 1, none⟩ = some (.slice A0 n0 c0) ∧ w'.cell? ⟨w.heap.size, 2, none⟩ = some (.bool t0) ∧ w'.cell? ⟨w.heap.size, 3, none⟩ = some (.slice B0 m0 d0) ∧ Below w.heap.size w w')) (by kernel_rfl) ?_ (fun hHeld => ?_)
 ·rw [hv2]
  exact HS2.out _ HX2.out
 rw [hv2] at hHeld ⊢
 clear hv2
 refine tq 0 ?_
 try simp only [PT]
 refine tq 1 ?_
 try simp only [PT]
 refine tq 3 ?_
 try simp only [PT]
 refine tq 4 ?_
 try simp only [PT]
 refine wpAnyH_ready (rs := [2]) (by kernel_rfl) (by simp) ?_
 refine .cons rfl (fun K hK => ?_) .nil
 go_simp
 go_at_call 20
 refine (neg_any p s0 A0 n0 c0 v2 (RNo.new HP0w1.out HX2.out) HN.out).mono ?_
 rintro e v3 ⟨s11, A11, n11, c11, rfl, hr11, hb⟩
 have HB3 := hJ hb
 have HR3hr11 := hJ hr11
 clear hb hr11
 go_wp2_with fail
 have HX3 := hJ (bt HX2.out HB3.out)
 clear hHeld
 refine hK.out _ _ (HS2.out _ HX3.out) (fun hHeld => ?_)
 clear hK K
 try simp only [PT]
 refine tq 5 ?_
 try simp only [PT]
 refine wpAnyH_ready (rs := [6]) (by kernel_rfl) (by simp) ?_
 refine .cons rfl (fun K hK => ?_) .nil
 have HP4 := hJ (BX.new HQ1x1.out HX3.out)
 have z4_0 := HP4.out.cell 0 rfl
 have y4_0 := HP4.out.frozen 0
 have z4_1 := HP4.out.cell 1 rfl
 have y4_1 := HP4.out.frozen 1
 have z4_2 := HP4.out.cell 2 rfl
 have y4_2 := HP4.out.frozen 2
 have z4_3 := HP4.out.cell 3 rfl
 have y4_3 := HP4.out.frozen 3
 have z4 := HP4.out.lt
 go_simp
 obtain ⟨v4, hV⟩ := nmz (World.setCell (World.setCell (World.setCell (World.setCell v3 ⟨w.heap.size + 1, 0, none⟩ (.bool s11)) ⟨w.heap.size + 1, 1, none⟩ (.slice A11 n11 c11)) ⟨w.heap.size + 1, 2, none⟩ (.bool t0)) ⟨w.heap.size + 1, 3, none⟩ (.slice B0 m0 d0))
 rw [hV]
 have HE4 := hJ (show sto v3 (w.heap.size + 1) 0 [.bool s11, .slice A11 n11 c11, .bool t0, .slice B0 m0 d0] = v4 from hV)
 clear hV z4 z4_0 y4_0 z4_1 y4_1 z4_2 y4_2 z4_3 y4_3
 have HX4 := hJ (show Below w.heap.size w v4 by rw [← HE4.out]; exact below_sto (bt HB1.out HX3.out) HG1x1.out _ _)
 have HW4_0 := hJ (show BX 41 v4 w.heap.size #[.bool s0, .slice A0 n0 c0, .bool t0, .slice B0 m0 d0] by rw [← HE4.out]; exact BX.far (BX.new HQ1x0.out HX3.out) (show w.heap.size ≠ w.heap.size + 1 by omega) _ _)
 clear hHeld
 refine hK.out _ _ (⟨HW4_0.out.cell 0 rfl, HW4_0.out.cell 1 rfl, HW4_0.out.cell 2 rfl, HW4_0.out.cell 3 rfl, HX4.out⟩) (fun hHeld => ?_)
 clear hK K
 try simp only [PT]
 refine wpAnyH_done (by kernel_rfl) ?_ _
 clear hHeld
 have HQ4s := hJ (show BX 41 v4 (w.heap.size + 1) #[.bool s11, .slice A11 n11 c11, .bool t0, .slice B0 m0 d0] by rw [← HE4.out]; exact BX.put HP4.out _ _)
 have HC0_3 := hJ (show Below w.heap.size w v4 by rw [← HE4.out]; exact below_sto (bt HB1.out HX3.out) HG1x1.out _ _)
 have HR3hr11w3 := hJ (show RN v4 s11 A11 n11 c11 (-p) by rw [← HE4.out]; exact RNo.sto HR3hr11.out HP4.out rfl _ _)
 have HP1w3 := hJ (RNo.new HP1.out HC0_3.out)
 go_wp2
 exact bodyPost_ret (results_cell_row rfl _ _ _ _ _ _ _ rfl HQ4s.out Tryz.underlying41 rfl (by kernel_rfl)) rfl ⟨s11, A11, n11, c11, t0, B0, m0, d0, rfl, HR3hr11w3.out, HP1w3.out, HC0_3.out⟩
set_option maxRecDepth 100000 in
set_option maxHeartbeats 1600000 in
theorem r4sign_any (p : Int) (s0 : Bool) (A0 : Option Addr) (n0 c0 : Nat) (t0 : Bool) (B0 : Option Addr) (m0 d0 : Nat) (w : World) (hp : RN w s0 A0 n0 c0 p) :
  Calls Tryz.prog 45 #[.agg #[.bool s0, .slice A0 n0 c0, .bool t0, .slice B0 m0 d0]] w fun e w' => e = .returned (.int .i64 (cmpI p 0)) ∧ Below w.heap.size w w' := by
 have HP0 := hJ hp
 clear hp
 rcases Int.lt_trichotomy p 0 with hp0 | hp0 | hp0
 ·have HD := hJ (show cmpI p 0 = -1 by unfold cmpI; rw [if_pos hp0])
  obtain rfl : s0 = true := HP0.out.1.trans (decide_eq_true hp0)
  have hn1 := rn_pos HP0.out (show p ≠ 0 by omega)
  clear hp0
  obtain ⟨x1, hx1⟩ := nmz (w.alloc (.cells #[.bool true, .slice A0 n0 c0, .bool t0, .slice B0 m0 d0] 41))
  have HB1 := hJ (show Below w.heap.size w x1 by rw [← hx1]; exact ((Below.refl _ _).alloc (Nat.le_refl _) _))
  have HQ1x0 := hJ (show BX 41 x1 w.heap.size #[.bool true, .slice A0 n0 c0, .bool t0, .slice B0 m0 d0] by rw [← hx1]; exact (BX.at rfl))
  have HG1x0 := hJ (show w.heap.size ≤ w.heap.size by omega)
  have HL1x0 := hJ (show w.heap.size < x1.heap.size from HQ1x0.out.lt)
  have cl2 := HQ1x0.out.cell 1 rfl
  have cl3 := HQ1x0.out.cell 0 rfl
  go_enter Tryz.func45, Tryz.ntmps45
  go_wp2
  clear hx1 cl2 cl3
  go_ret
  exact ⟨by rw [HD.out]; rfl, HB1.out⟩
 ·have HD := hJ (show cmpI p 0 = 0 by unfold cmpI; rw [if_neg (by omega), if_neg (by omega)])
  subst hp0
  obtain rfl : n0 = 0 := rn_zero HP0.out
  obtain ⟨x4, hx4⟩ := nmz (w.alloc (.cells #[.bool s0, .slice A0 0 c0, .bool t0, .slice B0 m0 d0] 41))
  have HB4 := hJ (show Below w.heap.size w x4 by rw [← hx4]; exact ((Below.refl _ _).alloc (Nat.le_refl _) _))
  have HQ4x0 := hJ (show BX 41 x4 w.heap.size #[.bool s0, .slice A0 0 c0, .bool t0, .slice B0 m0 d0] by rw [← hx4]; exact (BX.at rfl))
  have HG4x0 := hJ (show w.heap.size ≤ w.heap.size by omega)
  have HL4x0 := hJ (show w.heap.size < x4.heap.size from HQ4x0.out.lt)
  have cl5 := HQ4x0.out.cell 1 rfl
  go_enter Tryz.func45, Tryz.ntmps45
  go_wp2
  clear hx4 cl5
  go_ret
  exact ⟨by rw [HD.out]; rfl, HB4.out⟩
 ·have HD := hJ (show cmpI p 0 = 1 by unfold cmpI; rw [if_neg (by omega), if_pos hp0])
  obtain rfl : s0 = false := HP0.out.1.trans (decide_eq_false (by omega))
  have hn1 := rn_pos HP0.out (show p ≠ 0 by omega)
  clear hp0
  obtain ⟨x6, hx6⟩ := nmz (w.alloc (.cells #[.bool false, .slice A0 n0 c0, .bool t0, .slice B0 m0 d0] 41))
  have HB6 := hJ (show Below w.heap.size w x6 by rw [← hx6]; exact ((Below.refl _ _).alloc (Nat.le_refl _) _))
  have HQ6x0 := hJ (show BX 41 x6 w.heap.size #[.bool false, .slice A0 n0 c0, .bool t0, .slice B0 m0 d0] by rw [← hx6]; exact (BX.at rfl))
  have HG6x0 := hJ (show w.heap.size ≤ w.heap.size by omega)
  have HL6x0 := hJ (show w.heap.size < x6.heap.size from HQ6x0.out.lt)
  have cl7 := HQ6x0.out.cell 1 rfl
  have cl8 := HQ6x0.out.cell 0 rfl
  go_enter Tryz.func45, Tryz.ntmps45
  go_wp2
  clear hx6 cl7 cl8
  go_ret
  exact ⟨by rw [HD.out]; rfl, HB6.out⟩
end Go.Proofs.YtbhnaffbgggabaaGreat
