/- Contracts of the reference's fractions: Add, Sub, Pick, Number, Frac. Conditions: as each statement has them. -/
import Derived.Test.YtbhnaffbgggabaaGreatNRs
import Derived.Test.YtbhnaffbgggabaaGreatAL
import Derived.Test.YtbhnaffbgggabaaGreatAB
namespace Go.Proofs.YtbhnaffbgggabaaGreat
open Go.RowKit
attribute [local go_sem ↓] Go.wp_at_zero Go.wp_at_succ
theorem ad_res {p q r s G S Q : Int} (h : Low p q) (h' : Low r s) (hG : adG q s = G) (hS : s / G = S) (hQ : q / G = Q) :
  ((p * S).natAbs < lim ∧ (r * Q).natAbs < lim ∧ (Q * s).natAbs < lim ∧ (p * S + r * Q).natAbs < lim → adP p q r s = mkP (p * S + r * Q) (Q * s) ∧ adQ p q r s = mkQ (p * S + r * Q) (Q * s) ∧ adC p q r s = mkC (Q * s)) ∧ (¬ ((p * S).natAbs < lim ∧ (r * Q).natAbs < lim ∧ (Q * s).natAbs < lim ∧ (p * S + r * Q).natAbs < lim) → adP p q r s = 0 ∧ adQ p q r s = 1 ∧ adC p q r s = 4) := by
 subst hG hS hQ
 have hk : adK p q r s ↔ ((p * (s / adG q s)).natAbs < lim ∧ (r * (q / adG q s)).natAbs < lim ∧ (q / adG q s * s).natAbs < lim ∧ (p * (s / adG q s) + r * (q / adG q s)).natAbs < lim) :=
  ⟨fun h => ⟨h.1, h.2.1, h.2.2.2, h.2.2.1⟩, fun h => ⟨h.1, h.2.1, h.2.2.2, h.2.2.1⟩⟩
 refine ⟨fun hf => ?_, fun hf => ?_⟩
 ·have hk' := hk.2 hf
  obtain ⟨h1, h2⟩ := ad_ref h h' hk'
  have hc : adC p q r s = mkC (q / adG q s * s) := by
   rw [show adC p q r s = 0 from if_pos hk']
   refine (if_neg ?_).symm
   intro e
   have h3 := (ad_low h h' hk').1.1
   rw [h2] at h3
   obtain ⟨g, a, b, hg, e', ha, hb, _⟩ := gcd_parts q s (by have := h'.1; omega)
   have hG' : adG q s = g := e'
   have qa : q / g = a := by rw [ha, Int.mul_ediv_cancel_left _ (by omega)]
   have a0 : 0 < a := Int.pos_of_mul_pos_right (by rw [← ha]; exact h.1) hg
   rw [hG', qa] at e
   have := Int.mul_pos a0 h'.1
   omega
  exact ⟨h1, h2, hc⟩
 ·have hk' : ¬ adK p q r s := fun g => hf (hk.1 g)
  exact ⟨if_neg hk', if_neg hk', if_neg hk'⟩
set_option maxRecDepth 100000 in
set_option maxHeartbeats 1600000 in
theorem r4add_any (p q r s : Int) (k : Nat) (s0 : Bool) (A0 : Option Addr) (n0 c0 : Nat) (t0 : Bool) (B0 : Option Addr) (m0 d0 : Nat) (s1 : Bool) (A1 : Option Addr) (n1 c1 : Nat) (t1 : Bool) (B1 : Option Addr) (m1 d1 : Nat) (w : World) (hp : RN w s0 A0 n0 c0 p) (hq : RN w t0 B0 m0 d0 q) (hr : RN w s1 A1 n1 c1 r) (hs : RN w t1 B1 m1 d1 s) (hk : k ≤ 20000) (ha : Rk k p q) (hb : Rk k r s) :
  Calls Tryz.prog 34 #[.agg #[.bool s0, .slice A0 n0 c0, .bool t0, .slice B0 m0 d0], .agg #[.bool s1, .slice A1 n1 c1, .bool t1, .slice B1 m1 d1]] w (RetRE (adP p q r s) (adQ p q r s) (adC p q r s) w) := by
 have HP0 := hJ hp
 have HP1 := hJ hq
 have HP2 := hJ hr
 have HP3 := hJ hs
 have HK := hJ hk
 have HA := hJ ha
 have HB := hJ hb
 clear hp hq hr hs hk ha hb
 obtain ⟨G, hG⟩ := nmz (adG q s)
 have HGD := hJ (show G ≠ 0 ∧ G.natAbs < B2 k by
  rw [← hG]
  refine ⟨?_, B2.gcd (by have := HB.out.1.1; omega) HB.out.2.2⟩
  have := Nat.gcd_pos_of_pos_right q.natAbs (show 0 < s.natAbs by have := HB.out.1.1; omega)
  unfold adG
  omega)
 obtain ⟨S, hS⟩ := nmz (s / G)
 obtain ⟨Q, hQ⟩ := nmz (q / G)
 have HBS := hJ (show S.natAbs < B2 k by rw [← hS]; exact B2.div HB.out.2.2)
 have HBQ := hJ (show Q.natAbs < B2 k by rw [← hQ]; exact B2.div HA.out.2.2)
 have HLB0 := hJ (B2.mul HA.out.2.1 HBS.out)
 have HLB1 := hJ (B2.mul HB.out.2.1 HBQ.out)
 have HLB2 := hJ (B2.mul HBQ.out HB.out.2.2)
 have HLB3 := hJ (B2.add HLB0.out HLB1.out)
 have HG0 := hJ hG
 have HS0 := hJ hS
 have HQ0 := hJ hQ
 have HRS := hJ (ad_res (p := p) (q := q) (r := r) (s := s) HA.out.1 HB.out.1 hG hS hQ)
 clear hG hS hQ
 obtain ⟨L0, hL0⟩ := nmz (p * S)
 obtain ⟨L1, hL1⟩ := nmz (r * Q)
 obtain ⟨L2, hL2⟩ := nmz (Q * s)
 rw [hL0] at HLB0 HLB3
 rw [hL1] at HLB1 HLB3
 rw [hL2] at HLB2
 obtain ⟨L3, hL3⟩ := nmz (L0 + L1)
 rw [hL3] at HLB3
 rw [hL0, hL1, hL2, hL3] at HRS
 have HL0 := hJ hL0
 have HL1 := hJ hL1
 have HL2 := hJ hL2
 have HL3 := hJ hL3
 clear hL0 hL1 hL2 hL3
 obtain ⟨x1, hx1⟩ := nmz (((w.alloc (.cells #[.bool s0, .slice A0 n0 c0, .bool t0, .slice B0 m0 d0] 41)).alloc (.cells #[.bool s1, .slice A1 n1 c1, .bool t1, .slice B1 m1 d1] 41)).alloc (.cells #[.bool false, .slice none 0 0, .bool false, .slice none 0 0] 41))
 have HB1 := hJ (show Below w.heap.size w x1 by rw [← hx1]; exact ((((Below.refl _ _).alloc (Nat.le_refl _) _).alloc (by simp only [World.size_alloc]; omega) _).alloc (by simp only [World.size_alloc]; omega) _))
 have HQ1x0 := hJ (show BX 41 x1 w.heap.size #[.bool s0, .slice A0 n0 c0, .bool t0, .slice B0 m0 d0] by rw [← hx1]; exact (((BX.at rfl).alloc _).alloc _))
 have HG1x0 := hJ (show w.heap.size ≤ w.heap.size by omega)
 have HL1x0 := hJ (show w.heap.size < x1.heap.size from HQ1x0.out.lt)
 have HQ1x1 := hJ (show BX 41 x1 (w.heap.size + 1) #[.bool s1, .slice A1 n1 c1, .bool t1, .slice B1 m1 d1] by rw [← hx1]; exact ((BX.at (by simp only [World.size_alloc])).alloc _))
 have HG1x1 := hJ (show w.heap.size ≤ w.heap.size + 1 by omega)
 have HL1x1 := hJ (show w.heap.size + 1 < x1.heap.size from HQ1x1.out.lt)
 have HQ1x2 := hJ (show BX 41 x1 (w.heap.size + 2) #[.bool false, .slice none 0 0, .bool false, .slice none 0 0] by rw [← hx1]; exact (BX.at (by simp only [World.size_alloc])))
 have HG1x2 := hJ (show w.heap.size ≤ w.heap.size + 2 by omega)
 have HL1x2 := hJ (show w.heap.size + 2 < x1.heap.size from HQ1x2.out.lt)
 obtain ⟨cl2, cl3⟩ := HQ1x0.out.c2 2 3 rfl rfl
 obtain ⟨cl4, cl5⟩ := HQ1x1.out.c2 2 3 rfl rfl
 have HP1w1 := hJ (RNo.new HP1.out HB1.out)
 have HP3w1 := hJ (RNo.new HP3.out HB1.out)
 go_enter Tryz.func34, Tryz.ntmps34
 go_wp2_with fail
 clear hx1 cl2 cl3 cl4 cl5
 refine (rgcd_any q s t0 t1 B0 B1 m0 d0 m1 d1 x1 HP1w1.out HP3w1.out (Nat.le_trans (B2.rlen HP1w1.out HA.out.2.2) (by have := HK.out; omega)) (Nat.le_trans (B2.rlen HP3w1.out HB.out.2.2) (by have := HK.out; omega))).mono ?_
 rw [show ((Nat.gcd q.natAbs s.natAbs : Nat) : Int) = G from HG0.out]
 rintro e w6 ⟨s11, A11, n11, c11, rfl, hr11, hb⟩
 have HB6 := hJ hb
 have HR6hr11 := hJ hr11
 clear hb hr11
 obtain ⟨x7, hx7⟩ := nmz (w6.alloc (.cells #[.bool s11, .slice A11 n11 c11] 24))
 have HB7 := hJ (show Below w6.heap.size w6 x7 by rw [← hx7]; exact ((Below.refl _ _).alloc (Nat.le_refl _) _))
 have HQ7x0 := hJ (show BX 24 x7 w6.heap.size #[.bool s11, .slice A11 n11 c11] by rw [← hx7]; exact (BX.at rfl))
 have HG7x0 := hJ (show w6.heap.size ≤ w6.heap.size by omega)
 have HL7x0 := hJ (show w6.heap.size < x7.heap.size from HQ7x0.out.lt)
 have HC1_3 := hJ (bt HB6.out HB7.out)
 have HQ1x1w3 := hJ (BX.new HQ1x1.out HC1_3.out)
 obtain ⟨cl8, cl9⟩ := HQ1x1w3.out.c2 2 3 rfl rfl
 obtain ⟨cl10, cl11⟩ := HQ7x0.out.c2 0 1 rfl rfl
 have HP3w3 := hJ (RNo.new HP3w1.out HC1_3.out)
 have HR6hr11w3 := hJ (RNo.new HR6hr11.out HB7.out)
 go_wp2_with fail
 clear hx7 cl8 cl9 cl10 cl11
 refine (div_any s G t1 s11 B1 A11 m1 d1 n11 c11 x7 HP3w3.out HR6hr11w3.out (Nat.le_trans (B2.rlen HP3w3.out HB.out.2.2) (by have := HK.out; omega)) (Nat.le_trans (B2.rlen HR6hr11w3.out HGD.out.2) (by have := HK.out; omega)) HGD.out.1).mono ?_
 rw [HS0.out]
 rintro e w12 ⟨s12, A12, n12, c12, s13, A13, n13, c13, rfl, hr12, hr13, hb⟩
 have HB12 := hJ hb
 have HR12hr12 := hJ hr12
 have HR12hr13 := hJ hr13
 clear hb hr12 hr13
 obtain ⟨x13, hx13⟩ := nmz ((w12.alloc (.cells #[.bool s12, .slice A12 n12 c12] 24)).alloc (.cells #[.bool s13, .slice A13 n13 c13] 24))
 have HB13 := hJ (show Below w12.heap.size w12 x13 by rw [← hx13]; exact (((Below.refl _ _).alloc (Nat.le_refl _) _).alloc (by simp only [World.size_alloc]; omega) _))
 have HQ13x0 := hJ (show BX 24 x13 w12.heap.size #[.bool s12, .slice A12 n12 c12] by rw [← hx13]; exact ((BX.at rfl).alloc _))
 have HG13x0 := hJ (show w12.heap.size ≤ w12.heap.size by omega)
 have HL13x0 := hJ (show w12.heap.size < x13.heap.size from HQ13x0.out.lt)
 have HQ13x1 := hJ (show BX 24 x13 (w12.heap.size + 1) #[.bool s13, .slice A13 n13 c13] by rw [← hx13]; exact (BX.at (by simp only [World.size_alloc])))
 have HG13x1 := hJ (show w12.heap.size ≤ w12.heap.size + 1 by omega)
 have HL13x1 := hJ (show w12.heap.size + 1 < x13.heap.size from HQ13x1.out.lt)
 have HC1_5 := hJ (bt (bt HC1_3.out HB12.out) HB13.out)
 have HQ1x0w5 := hJ (BX.new HQ1x0.out HC1_5.out)
 obtain ⟨cl14, cl15⟩ := HQ1x0w5.out.c2 2 3 rfl rfl
 have HC3_5 := hJ (bt HB12.out HB13.out)
 have HQ7x0w5 := hJ (BX.new HQ7x0.out HC3_5.out)
 obtain ⟨cl16, cl17⟩ := HQ7x0w5.out.c2 0 1 rfl rfl
 have HP1w5 := hJ (RNo.new HP1w1.out HC1_5.out)
 have HR6hr11w5 := hJ (RNo.new HR6hr11w3.out HC3_5.out)
 go_wp2_with fail
 clear hx13 cl14 cl15 cl16 cl17
 refine (div_any q G t0 s11 B0 A11 m0 d0 n11 c11 x13 HP1w5.out HR6hr11w5.out (Nat.le_trans (B2.rlen HP1w5.out HA.out.2.2) (by have := HK.out; omega)) (Nat.le_trans (B2.rlen HR6hr11w5.out HGD.out.2) (by have := HK.out; omega)) HGD.out.1).mono ?_
 rw [HQ0.out]
 rintro e w18 ⟨s14, A14, n14, c14, s15, A15, n15, c15, rfl, hr14, hr15, hb⟩
 have HB18 := hJ hb
 have HR18hr14 := hJ hr14
 have HR18hr15 := hJ hr15
 clear hb hr14 hr15
 obtain ⟨x19, hx19⟩ := nmz ((w18.alloc (.cells #[.bool s14, .slice A14 n14 c14] 24)).alloc (.cells #[.bool s15, .slice A15 n15 c15] 24))
 have HB19 := hJ (show Below w18.heap.size w18 x19 by rw [← hx19]; exact (((Below.refl _ _).alloc (Nat.le_refl _) _).alloc (by simp only [World.size_alloc]; omega) _))
 have HQ19x0 := hJ (show BX 24 x19 w18.heap.size #[.bool s14, .slice A14 n14 c14] by rw [← hx19]; exact ((BX.at rfl).alloc _))
 have HG19x0 := hJ (show w18.heap.size ≤ w18.heap.size by omega)
 have HL19x0 := hJ (show w18.heap.size < x19.heap.size from HQ19x0.out.lt)
 have HQ19x1 := hJ (show BX 24 x19 (w18.heap.size + 1) #[.bool s15, .slice A15 n15 c15] by rw [← hx19]; exact (BX.at (by simp only [World.size_alloc])))
 have HG19x1 := hJ (show w18.heap.size ≤ w18.heap.size + 1 by omega)
 have HL19x1 := hJ (show w18.heap.size + 1 < x19.heap.size from HQ19x1.out.lt)
 have HC5_7 := hJ (bt HB18.out HB19.out)
 have HQ1x0w7 := hJ (BX.new HQ1x0w5.out HC5_7.out)
 have HQ13x0w7 := hJ (BX.new HQ13x0.out HC5_7.out)
 have HC3_7 := hJ (bt (bt HC3_5.out HB18.out) HB19.out)
 have HQ1x1w7 := hJ (BX.new HQ1x1w3.out HC3_7.out)
 have HS20 : Hid (∀ w', Below x19.heap.size x19 w' → (fun w' : World => w'.cell? ⟨w.heap.size, 0, none⟩ = some (.bool s0) ∧ w'.cell? ⟨w.heap.size, 1, none⟩ = some (.slice A0 n0 c0) ∧ w'.cell? ⟨w12.heap.size, 0, none⟩ = some (.bool s12) ∧ w'.cell? ⟨w12.heap.size, 1, none⟩ = some (.slice A12 n12 c12) ∧ w'.cell? ⟨w.heap.size + 1, 0, none⟩ = some (.bool s1) ∧ w'.cell? ⟨w.heap.size + 1, 1, none⟩ = some (.slice A1 n1 c1) ∧ w'.cell? ⟨w18.heap.size, 0, none⟩ = some (.bool s14) ∧ w'.cell? ⟨w18.heap.size, 1, none⟩ = some (.slice A14 n14 c14) ∧ w'.cell? ⟨w.heap.size + 1, 2, none⟩ = some (.bool t1) ∧ w'.cell? ⟨w.heap.size + 1, 3, none⟩ = some (.slice B1 m1 d1) ∧ Below x19.heap.size x19 w') w') := hJ (fun w' hb => ⟨(BX.new HQ1x0w7.out hb).cell 0 rfl, (BX.new HQ1x0w7.out hb).cell 1 rfl, (BX.new HQ13x0w7.out hb).cell 0 rfl, (BX.new HQ13x0w7.out hb).cell 1 rfl, (BX.new HQ1x1w7.out hb).cell 0 rfl, (BX.new HQ1x1w7.out hb).cell 1 rfl, (BX.new HQ19x0.out hb).cell 0 rfl, (BX.new HQ19x0.out hb).cell 1 rfl, (BX.new HQ1x1w7.out hb).cell 2 rfl, (BX.new HQ1x1w7.out hb).cell 3 rfl, hb⟩)
 have HC0_7 := hJ (bt (bt (bt (bt (bt (bt HB1.out HB6.out) HB7.out) HB12.out) HB13.out) HB18.out) HB19.out)
 have HP0w7 := hJ (RNo.new HP0.out HC0_7.out)
 have HC4_7 := hJ (bt (bt HB13.out HB18.out) HB19.out)
 have HR12hr12w7 := hJ (RNo.new HR12hr12.out HC4_7.out)
 have HP2w7 := hJ (RNo.new HP2.out HC0_7.out)
 have HR18hr14w7 := hJ (RNo.new HR18hr14.out HB19.out)
 have HP3w7 := hJ (RNo.new HP3w3.out HC3_7.out)
 go_wp2_with fail
 clear hx19
 obtain ⟨v20, hv20⟩ := nmz (World.drew x19)
 have HX20 := hJ (show Below x19.heap.size x19 v20 by rw [← hv20]; exact (Below.refl _ _).drew)
 refine wp_region_held_drew (S := (fun w' : World => w'.cell? ⟨w.heap.size, 0, none⟩ = some (.bool s0) ∧ w'.cell? ⟨w.heap.size, 1, none⟩ = some (.slice A0 n0 c0) ∧ w'.cell? ⟨w12.heap.size, 0, none⟩ = some (.bool s12) ∧ w'.cell? ⟨w12.heap.size, 1, none⟩ = some (.slice A12 n12 c12) ∧ w'.cell? ⟨w.heap.size + 1, 0, none⟩ = some (.bool s1) ∧ w'.cell? ⟨w.heap.size + 1, 1, none⟩ = some (.slice A1 n1 c1) ∧ w'.cell? ⟨w18.heap.size, 0, none⟩ = some (.bool s14) ∧ w'.cell? ⟨w18.heap.size, 1, none⟩ = some (.slice A14 n14 c14) ∧ w'.cell? ⟨w.heap.size + 1, 2, none⟩ = some (.bool t1) ∧ w'.cell? ⟨w.heap.size + 1, 3, none⟩ = some (.slice B1 m1 d1) ∧ Below x19.heap.size x19 w')) (by kernel_rfl) ?_ (fun hHeld => ?_)
 ·rw [hv20]
  exact HS20.out _ HX20.out
 rw [hv20] at hHeld ⊢
 clear hv20
 refine tq 0 ?_
 try simp only [PT]
 refine tq 1 ?_
 try simp only [PT]
 refine tq 2 ?_
 try simp only [PT]
 refine tq 4 ?_
 try simp only [PT]
 refine tq 5 ?_
 try simp only [PT]
 refine tq 6 ?_
 try simp only [PT]
 refine tq 8 ?_
 try simp only [PT]
 refine tq 9 ?_
 try simp only [PT]
 refine tq 10 ?_
 try simp only [PT]
 refine wpAnyH_ready (rs := [3]) (by kernel_rfl) (by simp) ?_
 refine .cons rfl (fun K hK => ?_) .nil
 go_simp
 go_at_call 18
 refine (mul_any p S s0 s12 A0 A12 n0 c0 n12 c12 v20 (RNo.new HP0w7.out HX20.out) (RNo.new HR12hr12w7.out HX20.out) (Nat.le_trans (B2.rlen (RNo.new HP0w7.out HX20.out) HA.out.2.1) (by have := HK.out; omega)) (Nat.le_trans (B2.rlen (RNo.new HR12hr12w7.out HX20.out) HBS.out) (by have := HK.out; omega))).mono ?_
 rw [HL0.out]
 rintro e v21 ⟨s16, A16, n16, c16, rfl, hr16, hb⟩
 have HB21 := hJ hb
 have HR21hr16 := hJ hr16
 clear hb hr16
 go_wp2_with fail
 have HX21 := hJ (bt HX20.out HB21.out)
 clear hHeld
 refine hK.out _ _ (HS20.out _ HX21.out) (fun hHeld => ?_)
 clear hK K
 try simp only [PT]
 refine wpAnyH_ready (rs := [7]) (by kernel_rfl) (by simp) ?_
 refine .cons rfl (fun K hK => ?_) .nil
 go_simp
 go_at_call 18
 refine (mul_any r Q s1 s14 A1 A14 n1 c1 n14 c14 v21 (RNo.new HP2w7.out HX21.out) (RNo.new HR18hr14w7.out HX21.out) (Nat.le_trans (B2.rlen (RNo.new HP2w7.out HX21.out) HB.out.2.1) (by have := HK.out; omega)) (Nat.le_trans (B2.rlen (RNo.new HR18hr14w7.out HX21.out) HBQ.out) (by have := HK.out; omega))).mono ?_
 rw [HL1.out]
 rintro e v22 ⟨s17, A17, n17, c17, rfl, hr17, hb⟩
 have HB22 := hJ hb
 have HR22hr17 := hJ hr17
 clear hb hr17
 go_wp2_with fail
 have HX22 := hJ (bt HX21.out HB22.out)
 have HZ22_0 := hJ (RNo.new HR21hr16.out HB22.out)
 clear hHeld
 refine hK.out _ _ (HS20.out _ HX22.out) (fun hHeld => ?_)
 clear hK K
 try simp only [PT]
 refine wpAnyH_ready (rs := [11]) (by kernel_rfl) (by simp) ?_
 refine .cons rfl (fun K hK => ?_) .nil
 go_simp
 go_at_call 18
 refine (mul_any Q s s14 t1 A14 B1 n14 c14 m1 d1 v22 (RNo.new HR18hr14w7.out HX22.out) (RNo.new HP3w7.out HX22.out) (Nat.le_trans (B2.rlen (RNo.new HR18hr14w7.out HX22.out) HBQ.out) (by have := HK.out; omega)) (Nat.le_trans (B2.rlen (RNo.new HP3w7.out HX22.out) HB.out.2.2) (by have := HK.out; omega))).mono ?_
 rw [HL2.out]
 rintro e v23 ⟨s18, A18, n18, c18, rfl, hr18, hb⟩
 have HB23 := hJ hb
 have HR23hr18 := hJ hr18
 clear hb hr18
 go_wp2_with fail
 have HX23 := hJ (bt HX22.out HB23.out)
 have HZ23_0 := hJ (RNo.new HZ22_0.out HB23.out)
 have HZ23_1 := hJ (RNo.new HR22hr17.out HB23.out)
 clear hHeld
 refine hK.out _ _ (HS20.out _ HX23.out) (fun hHeld => ?_)
 clear hK K
 try simp only [PT]
 refine wpAnyH_ready (rs := [12]) (by kernel_rfl) (by simp) ?_
 refine .cons rfl (fun K hK => ?_) .nil
 go_simp
 have HB24 := hJ ((Below.refl v23.heap.size v23).alloc (Nat.le_refl _) (.cells #[.bool s16, .slice A16 n16 c16, .bool s17, .slice A17 n17 c17, .bool s18, .slice A18 n18 c18] 24))
 have HP24 := hJ (BX.lit v23 24 #[.bool s16, .slice A16 n16 c16, .bool s17, .slice A17 n17 c17, .bool s18, .slice A18 n18 c18])
 obtain ⟨v24, hV⟩ := nmz (World.alloc v23 (.cells #[.bool s16, .slice A16 n16 c16, .bool s17, .slice A17 n17 c17, .bool s18, .slice A18 n18 c18] 24))
 obtain ⟨g4_12, hg⟩ := nmz (v23.heap.size)
 rw [hV] at HB24 HP24 ⊢
 rw [hg] at HP24 ⊢
 have HG24 := hJ (show x19.heap.size ≤ g4_12 by rw [← hg]; exact HX23.out.size)
 clear hV hg
 have HX24 := hJ (bt HX23.out HB24.out)
 have HZ24_0 := hJ (RNo.new HZ23_0.out HB24.out)
 have HZ24_1 := hJ (RNo.new HZ23_1.out HB24.out)
 have HZ24_2 := hJ (RNo.new HR23hr18.out HB24.out)
 clear hHeld
 refine hK.out _ _ (HS20.out _ HX24.out) (fun hHeld => ?_)
 clear hK K
 try simp only [PT]
 refine tq 13 ?_
 try simp only [PT]
 refine wpAnyH_done (by kernel_rfl) ?_ _
 clear hHeld
 have HL25 := hJ (show g4_12 < v24.heap.size from HP24.out.lt)
 obtain ⟨i24, hi24, hz24, hs24, hy24⟩ := info_parts (show (Tryz.prog.info? 24).map (fun i => (i.zero, i.size, i.bytes)) = some (some (.agg #[.bool false, .slice none 0 0]), 2, 32) by kernel_rfl)
 have HT24 := hJ (And.intro hi24 (And.intro hz24 (And.intro hs24 hy24)))
 clear hi24 hz24 hs24 hy24
 have HO26 := hJ (show OwnR noD v24 x19.heap.size 24 2 (.slice (some ⟨g4_12, 0, none⟩) 3 3) 3 [.bool s16, .slice A16 n16 c16, .bool s17, .slice A17 n17 c17, .bool s18, .slice A18 n18 c18] from OwnR.of_lit HP24.out HG24.out (by decide) rfl rfl)
 have HS27 : Hid (∀ w', Below v24.heap.size v24 w' → (fun w' : World => w'.cell? ⟨g4_12, 0, none⟩ = some (.bool s16) ∧ w'.cell? ⟨g4_12, 1, none⟩ = some (.slice A16 n16 c16) ∧ w'.cell? ⟨g4_12, 2, none⟩ = some (.bool s17) ∧ w'.cell? ⟨g4_12, 3, none⟩ = some (.slice A17 n17 c17) ∧ Below x19.heap.size x19 w') w') := hJ (fun w' hb => ⟨(BX.new HP24.out hb).cell 0 rfl, (BX.new HP24.out hb).cell 1 rfl, (BX.new HP24.out hb).cell 2 rfl, (BX.new HP24.out hb).cell 3 rfl, (bt HX24.out hb)⟩)
 go_wp2_with fail
 obtain ⟨v27, hv27⟩ := nmz (World.drew v24)
 have HX27 := hJ (show Below v24.heap.size v24 v27 by rw [← hv27]; exact (Below.refl _ _).drew)
 refine wp_region_held_drew (S := (fun w' : World => w'.cell? ⟨g4_12, 0, none⟩ = some (.bool s16) ∧ w'.cell? ⟨g4_12, 1, none⟩ = some (.slice A16 n16 c16) ∧ w'.cell? ⟨g4_12, 2, none⟩ = some (.bool s17) ∧ w'.cell? ⟨g4_12, 3, none⟩ = some (.slice A17 n17 c17) ∧ Below x19.heap.size x19 w')) (by kernel_rfl) ?_ (fun hHeld => ?_)
 ·rw [hv27]
  exact HS27.out _ HX27.out
 rw [hv27] at hHeld ⊢
 clear hv27
 refine tq 0 ?_
 try simp only [PT]
 refine tq 1 ?_
 try simp only [PT]
 refine tq 2 ?_
 try simp only [PT]
 refine tq 3 ?_
 try simp only [PT]
 refine tq 4 ?_
 try simp only [PT]
 refine tq 5 ?_
 try simp only [PT]
 refine tq 6 ?_
 try simp only [PT]
 refine wpAnyH_ready (rs := [7]) (by kernel_rfl) (by simp) ?_
 refine .cons rfl (fun K hK => ?_) .nil
 go_simp
 go_at_call 96
 refine (add_any L0 L1 s16 s17 A16 A17 n16 c16 n17 c17 v27 (RNo.new HZ24_0.out HX27.out) (RNo.new HZ24_1.out HX27.out) (Nat.le_trans (B2.rlen (RNo.new HZ24_0.out HX27.out) HLB0.out) (by have := HK.out; omega)) (Nat.le_trans (B2.rlen (RNo.new HZ24_1.out HX27.out) HLB1.out) (by have := HK.out; omega))).mono ?_
 rw [HL3.out]
 rintro e v28 ⟨s19, A19, n19, c19, rfl, hr19, hb⟩
 have HB28 := hJ hb
 have HR28hr19 := hJ hr19
 clear hb hr19
 go_wp2_with fail
 have HX28 := hJ (bt HX27.out HB28.out)
 clear hHeld
 refine hK.out _ _ (HS27.out _ HX28.out) (fun hHeld => ?_)
 clear hK K
 try simp only [PT]
 refine wpAnyH_ready (rs := [8]) (by kernel_rfl) (by simp) ?_
 refine .cons rfl (fun K hK => ?_) .nil
 go_simp
 have HB29 := hJ ((Below.refl v28.heap.size v28).alloc (Nat.le_refl _) (.cells #[.bool s19, .slice A19 n19 c19] 24))
 have HP29 := hJ (BX.lit v28 24 #[.bool s19, .slice A19 n19 c19])
 obtain ⟨v29, hV⟩ := nmz (World.alloc v28 (.cells #[.bool s19, .slice A19 n19 c19] 24))
 obtain ⟨g5_8, hg⟩ := nmz (v28.heap.size)
 rw [hV] at HB29 HP29 ⊢
 rw [hg] at HP29 ⊢
 have HG29 := hJ (show v24.heap.size ≤ g5_8 by rw [← hg]; exact HX28.out.size)
 clear hV hg
 have HX29 := hJ (bt HX28.out HB29.out)
 have HZ29_0 := hJ (RNo.new HR28hr19.out HB29.out)
 clear hHeld
 refine hK.out _ _ (HS27.out _ HX29.out) (fun hHeld => ?_)
 clear hK K
 try simp only [PT]
 refine wpAnyH_ready (rs := [9]) (by kernel_rfl) (by simp) ?_
 refine .cons rfl (fun K hK => ?_) .nil
 have HO30o := hJ (OwnR.new HO26.out HX29.out)
 refine step_append_okv noD rfl _ _ 30 rfl x19.heap.size 24 i24 _ 2 32 Tryz.underlying30 HT24.out.1 HT24.out.2.1 HT24.out.2.2.1 HT24.out.2.2.2 rfl rfl (by decide) (.slice (some ⟨g4_12, 0, none⟩) 3 3) 3 [.bool s16, .slice A16 n16 c16, .bool s17, .slice A17 n17 c17, .bool s18, .slice A18 n18 c18] rfl HO30o.out ⟨g5_8, 0, none⟩ 1 1 [.bool s19, .slice A19 n19 c19] rfl rfl (BX.news HP29.out) (List.all_eq_true (p := Value.oneCell')|>.1 rfl) rfl (by unfold maxLen; omega) (by omega) ((bt HX24.out HX29.out)).size (by decide) ?_
 intro va wa hown hgrow
 have hown : OwnR noD wa x19.heap.size 24 2 va 4 [.bool s16, .slice A16 n16 c16, .bool s17, .slice A17 n17 c17, .bool s18, .slice A18 n18 c18, .bool s19, .slice A19 n19 c19] := hown
 obtain ⟨ga5_9, cp5_9, rfl, hg1, hg2, hcap, _⟩ := hown.row (by decide)
 obtain ⟨v30, rfl⟩ : ∃ W, W = wa := ⟨_, rfl⟩
 have HO30 := hJ (show OwnR noD v30 x19.heap.size 24 2 (.slice (some ⟨ga5_9, 0, none⟩) 4 cp5_9) 4 [.bool s16, .slice A16 n16 c16, .bool s17, .slice A17 n17 c17, .bool s18, .slice A18 n18 c18, .bool s19, .slice A19 n19 c19] from hown)
 have HG30 := hJ hg1
 have HL30 := hJ hg2
 have HW30 := hJ hgrow
 have HN30 := hJ (show 4 ≤ cp5_9 from hcap)
 clear hown hg1 hg2 hgrow hcap
 have HX30 := hJ (show Below x19.heap.size x19 v30 from Grew.below (bt HX24.out HX29.out) HW30.out HO30o.out (Nat.le_refl _) ((bt HX24.out HX29.out)).size)
 clear hHeld
 refine hK.out _ _ (⟨(HW30.out.2.2 g4_12 rfl 0 _ rfl), (HW30.out.2.2 g4_12 rfl 1 _ rfl), (HW30.out.2.2 g4_12 rfl 2 _ rfl), (HW30.out.2.2 g4_12 rfl 3 _ rfl), HX30.out⟩) (fun hHeld => ?_)
 clear hK K
 try simp only [PT]
 refine tq 10 ?_
 try simp only [PT]
 refine wpAnyH_done (by kernel_rfl) ?_ _
 clear hHeld
 have HL31 := hJ (show g5_8 < v29.heap.size from HP29.out.lt)
 go_wp2_with fail
 go_loopw [12] (fun tv wr => ∃ i : Nat, i ≤ 4 ∧ tv = .int .i64 (i : Int) ∧ Below v30.heap.size v30 wr ∧ Hid ((1 ≤ i → L0.natAbs < lim) ∧ (2 ≤ i → L1.natAbs < lim) ∧ (3 ≤ i → L2.natAbs < lim) ∧ (4 ≤ i → L3.natAbs < lim))) (fun tv _ => 4 - (intOf tv).toNat)
 case atStart => exact ⟨0, by omega, rfl, Below.refl _ _, hJ (⟨fun h => absurd h (by omega), fun h => absurd h (by omega), fun h => absurd h (by omega), fun h => absurd h (by omega)⟩)⟩
 case round =>
  obtain ⟨i32, hi, rfl, hbel, HI32⟩ := hrel
  obtain ⟨wl32, rfl⟩ : ∃ W : World, W = wr := ⟨_, rfl⟩
  have HB32 := hJ hbel
  clear hbel
  have hcs : i32 = 0 ∨ i32 = 1 ∨ i32 = 2 ∨ i32 = 3 ∨ i32 = 4 := by omega
  clear hi
  rcases hcs with rfl | rfl | rfl | rfl | rfl
  ·(try rw [show ((0 : Nat) : Int) = 0 from rfl])
   have HO30w11 := hJ (OwnR.new HO30.out HB32.out)
   have cl33 := HO30w11.out.at 0 rfl
   have cl34 := HO30w11.out.at 1 rfl
   have HZ24_0w9 := hJ (RNo.new HZ24_0.out HX29.out)
   have HZ24_0w10 := hJ (show RN v30 s16 A16 n16 c16 L0 from RNo.grow HZ24_0w9.out HW30.out (fun _ => rfl))
   have HZ24_0w11 := hJ (RNo.new HZ24_0w10.out HB32.out)
   go_wp2_with fail
   clear cl33 cl34
   refine (fits_any L0 s16 A16 n16 c16 wl32 HZ24_0w11.out (Nat.le_trans (B2.rlen HZ24_0w11.out HLB0.out) (by have := HK.out; omega))).mono ?_
   rintro e w35 ⟨rfl, hb⟩
   have HB35 := hJ hb
   clear hb
   by_cases hf : L0.natAbs < lim
   ·rw [decide_eq_true hf]
    have HFT := hJ hf
    clear hf
    have HC10_12 := hJ (bt HB32.out HB35.out)
    go_wp2_with fail
    go_roundw
    case rel => exact ⟨0 + 1, by omega, by go_num, HC10_12.out, hJ (⟨fun _ => HFT.out, fun h => absurd h (by omega), fun h => absurd h (by omega), fun h => absurd h (by omega)⟩)⟩
    case measure => simp [intOf] <;> omega
   ·rw [decide_eq_false hf]
    have HFF := hJ (HRS.out.2 (fun h => hf h.1))
    clear hf
    go_wp2_with fail
    refine (r4of_any 0 w35 (by decide)).mono ?_
    rintro e w36 ⟨s20, A20, n20, c20, t20, B20, m20, d20, rfl, hr20, hs20, hb⟩
    have HB36 := hJ hb
    have HR36hr20 := hJ hr20
    have HR36hs20 := hJ hs20
    clear hb hr20 hs20
    have HC1_7 := hJ (bt (bt HC1_5.out HB18.out) HB19.out)
    have HC1_10 := hJ (show Below x1.heap.size x1 v30 from Grew.below (bt (bt (bt (bt HC1_5.out HB18.out) HB19.out) HX24.out) HX29.out) HW30.out HO30o.out (HC1_7.out).size ((bt (bt (bt (bt HC1_5.out HB18.out) HB19.out) HX24.out) HX29.out)).size)
    have HC1_13 := hJ (bt (bt (bt HC1_10.out HB32.out) HB35.out) HB36.out)
    have HQ1x2w13 := hJ (BX.new HQ1x2.out HC1_13.out)
    have fz37_0 := HQ1x2w13.out.frozen 0
    have fc37_0 := HQ1x2w13.out.cell 0 rfl
    have fz37_1 := HQ1x2w13.out.frozen 1
    have fc37_1 := HQ1x2w13.out.cell 1 rfl
    have fz37_2 := HQ1x2w13.out.frozen 2
    have fc37_2 := HQ1x2w13.out.cell 2 rfl
    have fz37_3 := HQ1x2w13.out.frozen 3
    have fc37_3 := HQ1x2w13.out.cell 3 rfl
    obtain ⟨x37, hx37⟩ := nmz (World.setCell (World.setCell (World.setCell (World.setCell w36 ⟨w.heap.size + 2, 0, none⟩ (.bool s20)) ⟨w.heap.size + 2, 1, none⟩ (.slice A20 n20 c20)) ⟨w.heap.size + 2, 2, none⟩ (.bool t20)) ⟨w.heap.size + 2, 3, none⟩ (.slice B20 m20 d20))
    have HE37 := hJ (show sto w36 (w.heap.size + 2) 0 [.bool s20, .slice A20 n20 c20, .bool t20, .slice B20 m20 d20] = x37 from hx37)
    have HQ37s := hJ (show BX 41 x37 (w.heap.size + 2) #[.bool s20, .slice A20 n20 c20, .bool t20, .slice B20 m20 d20] by rw [← HE37.out]; exact BX.put HQ1x2w13.out _ _)
    have HC0_10 := hJ (show Below w.heap.size w v30 from Grew.below (bt (bt HC0_7.out HX24.out) HX29.out) HW30.out HO30o.out (HC0_7.out).size ((bt (bt HC0_7.out HX24.out) HX29.out)).size)
    have HC0_14 := hJ (show Below w.heap.size w x37 by rw [← HE37.out]; exact below_sto (bt (bt (bt HC0_10.out HB32.out) HB35.out) HB36.out) HG1x2.out _ _)
    have HR36hr20w14 := hJ (show RN x37 s20 A20 n20 c20 0 by rw [← HE37.out]; exact RNo.sto HR36hr20.out HQ1x2w13.out rfl _ _)
    have HR36hs20w14 := hJ (show RN x37 t20 B20 m20 d20 1 by rw [← HE37.out]; exact RNo.sto HR36hs20.out HQ1x2w13.out rfl _ _)
    go_wp2
    clear fz37_0 fc37_0 fz37_1 fc37_1 fz37_2 fc37_2 fz37_3 fc37_3 hx37
    exact bodyPost_ret (results_cell1 rfl _ _ _ _ _ _ _ rfl HQ37s.out Tryz.underlying41 rfl (by kernel_rfl)) rfl (by rw [HFF.out.1, HFF.out.2.1, HFF.out.2.2]; exact ⟨s20, A20, n20, c20, t20, B20, m20, d20, rfl, HR36hr20w14.out, HR36hs20w14.out, HC0_14.out⟩)
  ·(try rw [show ((1 : Nat) : Int) = 1 from rfl])
   have HO30w11 := hJ (OwnR.new HO30.out HB32.out)
   have cl38 := HO30w11.out.at 2 rfl
   have cl39 := HO30w11.out.at 3 rfl
   have HZ24_1w9 := hJ (RNo.new HZ24_1.out HX29.out)
   have HZ24_1w10 := hJ (show RN v30 s17 A17 n17 c17 L1 from RNo.grow HZ24_1w9.out HW30.out (fun _ => rfl))
   have HZ24_1w11 := hJ (RNo.new HZ24_1w10.out HB32.out)
   go_wp2_with fail
   clear cl38 cl39
   refine (fits_any L1 s17 A17 n17 c17 wl32 HZ24_1w11.out (Nat.le_trans (B2.rlen HZ24_1w11.out HLB1.out) (by have := HK.out; omega))).mono ?_
   rintro e w40 ⟨rfl, hb⟩
   have HB40 := hJ hb
   clear hb
   by_cases hf : L1.natAbs < lim
   ·rw [decide_eq_true hf]
    have HFT := hJ hf
    clear hf
    have HC10_12 := hJ (bt HB32.out HB40.out)
    go_wp2_with fail
    go_roundw
    case rel => exact ⟨1 + 1, by omega, by go_num, HC10_12.out, hJ (⟨fun _ => HI32.out.1 (by omega), fun _ => HFT.out, fun h => absurd h (by omega), fun h => absurd h (by omega)⟩)⟩
    case measure => simp [intOf] <;> omega
   ·rw [decide_eq_false hf]
    have HFF := hJ (HRS.out.2 (fun h => hf h.2.1))
    clear hf
    go_wp2_with fail
    refine (r4of_any 0 w40 (by decide)).mono ?_
    rintro e w41 ⟨s21, A21, n21, c21, t21, B21, m21, d21, rfl, hr21, hs21, hb⟩
    have HB41 := hJ hb
    have HR41hr21 := hJ hr21
    have HR41hs21 := hJ hs21
    clear hb hr21 hs21
    have HC1_7 := hJ (bt (bt HC1_5.out HB18.out) HB19.out)
    have HC1_10 := hJ (show Below x1.heap.size x1 v30 from Grew.below (bt (bt (bt (bt HC1_5.out HB18.out) HB19.out) HX24.out) HX29.out) HW30.out HO30o.out (HC1_7.out).size ((bt (bt (bt (bt HC1_5.out HB18.out) HB19.out) HX24.out) HX29.out)).size)
    have HC1_13 := hJ (bt (bt (bt HC1_10.out HB32.out) HB40.out) HB41.out)
    have HQ1x2w13 := hJ (BX.new HQ1x2.out HC1_13.out)
    have fz42_0 := HQ1x2w13.out.frozen 0
    have fc42_0 := HQ1x2w13.out.cell 0 rfl
    have fz42_1 := HQ1x2w13.out.frozen 1
    have fc42_1 := HQ1x2w13.out.cell 1 rfl
    have fz42_2 := HQ1x2w13.out.frozen 2
    have fc42_2 := HQ1x2w13.out.cell 2 rfl
    have fz42_3 := HQ1x2w13.out.frozen 3
    have fc42_3 := HQ1x2w13.out.cell 3 rfl
    obtain ⟨x42, hx42⟩ := nmz (World.setCell (World.setCell (World.setCell (World.setCell w41 ⟨w.heap.size + 2, 0, none⟩ (.bool s21)) ⟨w.heap.size + 2, 1, none⟩ (.slice A21 n21 c21)) ⟨w.heap.size + 2, 2, none⟩ (.bool t21)) ⟨w.heap.size + 2, 3, none⟩ (.slice B21 m21 d21))
    have HE42 := hJ (show sto w41 (w.heap.size + 2) 0 [.bool s21, .slice A21 n21 c21, .bool t21, .slice B21 m21 d21] = x42 from hx42)
    have HQ42s := hJ (show BX 41 x42 (w.heap.size + 2) #[.bool s21, .slice A21 n21 c21, .bool t21, .slice B21 m21 d21] by rw [← HE42.out]; exact BX.put HQ1x2w13.out _ _)
    have HC0_10 := hJ (show Below w.heap.size w v30 from Grew.below (bt (bt HC0_7.out HX24.out) HX29.out) HW30.out HO30o.out (HC0_7.out).size ((bt (bt HC0_7.out HX24.out) HX29.out)).size)
    have HC0_14 := hJ (show Below w.heap.size w x42 by rw [← HE42.out]; exact below_sto (bt (bt (bt HC0_10.out HB32.out) HB40.out) HB41.out) HG1x2.out _ _)
    have HR41hr21w14 := hJ (show RN x42 s21 A21 n21 c21 0 by rw [← HE42.out]; exact RNo.sto HR41hr21.out HQ1x2w13.out rfl _ _)
    have HR41hs21w14 := hJ (show RN x42 t21 B21 m21 d21 1 by rw [← HE42.out]; exact RNo.sto HR41hs21.out HQ1x2w13.out rfl _ _)
    go_wp2
    clear fz42_0 fc42_0 fz42_1 fc42_1 fz42_2 fc42_2 fz42_3 fc42_3 hx42
    exact bodyPost_ret (results_cell1 rfl _ _ _ _ _ _ _ rfl HQ42s.out Tryz.underlying41 rfl (by kernel_rfl)) rfl (by rw [HFF.out.1, HFF.out.2.1, HFF.out.2.2]; exact ⟨s21, A21, n21, c21, t21, B21, m21, d21, rfl, HR41hr21w14.out, HR41hs21w14.out, HC0_14.out⟩)
  ·(try rw [show ((2 : Nat) : Int) = 2 from rfl])
   have HO30w11 := hJ (OwnR.new HO30.out HB32.out)
   have cl43 := HO30w11.out.at 4 rfl
   have cl44 := HO30w11.out.at 5 rfl
   have HZ24_2w9 := hJ (RNo.new HZ24_2.out HX29.out)
   have HZ24_2w10 := hJ (show RN v30 s18 A18 n18 c18 L2 from RNo.grow HZ24_2w9.out HW30.out (fun _ => rfl))
   have HZ24_2w11 := hJ (RNo.new HZ24_2w10.out HB32.out)
   go_wp2_with fail
   clear cl43 cl44
   refine (fits_any L2 s18 A18 n18 c18 wl32 HZ24_2w11.out (Nat.le_trans (B2.rlen HZ24_2w11.out HLB2.out) (by have := HK.out; omega))).mono ?_
   rintro e w45 ⟨rfl, hb⟩
   have HB45 := hJ hb
   clear hb
   by_cases hf : L2.natAbs < lim
   ·rw [decide_eq_true hf]
    have HFT := hJ hf
    clear hf
    have HC10_12 := hJ (bt HB32.out HB45.out)
    go_wp2_with fail
    go_roundw
    case rel => exact ⟨2 + 1, by omega, by go_num, HC10_12.out, hJ (⟨fun _ => HI32.out.1 (by omega), fun _ => HI32.out.2.1 (by omega), fun _ => HFT.out, fun h => absurd h (by omega)⟩)⟩
    case measure => simp [intOf] <;> omega
   ·rw [decide_eq_false hf]
    have HFF := hJ (HRS.out.2 (fun h => hf h.2.2.1))
    clear hf
    go_wp2_with fail
    refine (r4of_any 0 w45 (by decide)).mono ?_
    rintro e w46 ⟨s22, A22, n22, c22, t22, B22, m22, d22, rfl, hr22, hs22, hb⟩
    have HB46 := hJ hb
    have HR46hr22 := hJ hr22
    have HR46hs22 := hJ hs22
    clear hb hr22 hs22
    have HC1_7 := hJ (bt (bt HC1_5.out HB18.out) HB19.out)
    have HC1_10 := hJ (show Below x1.heap.size x1 v30 from Grew.below (bt (bt (bt (bt HC1_5.out HB18.out) HB19.out) HX24.out) HX29.out) HW30.out HO30o.out (HC1_7.out).size ((bt (bt (bt (bt HC1_5.out HB18.out) HB19.out) HX24.out) HX29.out)).size)
    have HC1_13 := hJ (bt (bt (bt HC1_10.out HB32.out) HB45.out) HB46.out)
    have HQ1x2w13 := hJ (BX.new HQ1x2.out HC1_13.out)
    have fz47_0 := HQ1x2w13.out.frozen 0
    have fc47_0 := HQ1x2w13.out.cell 0 rfl
    have fz47_1 := HQ1x2w13.out.frozen 1
    have fc47_1 := HQ1x2w13.out.cell 1 rfl
    have fz47_2 := HQ1x2w13.out.frozen 2
    have fc47_2 := HQ1x2w13.out.cell 2 rfl
    have fz47_3 := HQ1x2w13.out.frozen 3
    have fc47_3 := HQ1x2w13.out.cell 3 rfl
    obtain ⟨x47, hx47⟩ := nmz (World.setCell (World.setCell (World.setCell (World.setCell w46 ⟨w.heap.size + 2, 0, none⟩ (.bool s22)) ⟨w.heap.size + 2, 1, none⟩ (.slice A22 n22 c22)) ⟨w.heap.size + 2, 2, none⟩ (.bool t22)) ⟨w.heap.size + 2, 3, none⟩ (.slice B22 m22 d22))
    have HE47 := hJ (show sto w46 (w.heap.size + 2) 0 [.bool s22, .slice A22 n22 c22, .bool t22, .slice B22 m22 d22] = x47 from hx47)
    have HQ47s := hJ (show BX 41 x47 (w.heap.size + 2) #[.bool s22, .slice A22 n22 c22, .bool t22, .slice B22 m22 d22] by rw [← HE47.out]; exact BX.put HQ1x2w13.out _ _)
    have HC0_10 := hJ (show Below w.heap.size w v30 from Grew.below (bt (bt HC0_7.out HX24.out) HX29.out) HW30.out HO30o.out (HC0_7.out).size ((bt (bt HC0_7.out HX24.out) HX29.out)).size)
    have HC0_14 := hJ (show Below w.heap.size w x47 by rw [← HE47.out]; exact below_sto (bt (bt (bt HC0_10.out HB32.out) HB45.out) HB46.out) HG1x2.out _ _)
    have HR46hr22w14 := hJ (show RN x47 s22 A22 n22 c22 0 by rw [← HE47.out]; exact RNo.sto HR46hr22.out HQ1x2w13.out rfl _ _)
    have HR46hs22w14 := hJ (show RN x47 t22 B22 m22 d22 1 by rw [← HE47.out]; exact RNo.sto HR46hs22.out HQ1x2w13.out rfl _ _)
    go_wp2
    clear fz47_0 fc47_0 fz47_1 fc47_1 fz47_2 fc47_2 fz47_3 fc47_3 hx47
    exact bodyPost_ret (results_cell1 rfl _ _ _ _ _ _ _ rfl HQ47s.out Tryz.underlying41 rfl (by kernel_rfl)) rfl (by rw [HFF.out.1, HFF.out.2.1, HFF.out.2.2]; exact ⟨s22, A22, n22, c22, t22, B22, m22, d22, rfl, HR46hr22w14.out, HR46hs22w14.out, HC0_14.out⟩)
  ·(try rw [show ((3 : Nat) : Int) = 3 from rfl])
   have HO30w11 := hJ (OwnR.new HO30.out HB32.out)
   have cl48 := HO30w11.out.at 6 rfl
   have cl49 := HO30w11.out.at 7 rfl
   have HZ29_0w10 := hJ (show RN v30 s19 A19 n19 c19 L3 from RNo.grow HZ29_0.out HW30.out (fun _ => rfl))
   have HZ29_0w11 := hJ (RNo.new HZ29_0w10.out HB32.out)
   go_wp2_with fail
   clear cl48 cl49
   refine (fits_any L3 s19 A19 n19 c19 wl32 HZ29_0w11.out (Nat.le_trans (B2.rlen HZ29_0w11.out HLB3.out) (by have := HK.out; omega))).mono ?_
   rintro e w50 ⟨rfl, hb⟩
   have HB50 := hJ hb
   clear hb
   by_cases hf : L3.natAbs < lim
   ·rw [decide_eq_true hf]
    have HFT := hJ hf
    clear hf
    have HC10_12 := hJ (bt HB32.out HB50.out)
    go_wp2_with fail
    go_roundw
    case rel => exact ⟨3 + 1, by omega, by go_num, HC10_12.out, hJ (⟨fun _ => HI32.out.1 (by omega), fun _ => HI32.out.2.1 (by omega), fun _ => HI32.out.2.2.1 (by omega), fun _ => HFT.out⟩)⟩
    case measure => simp [intOf] <;> omega
   ·rw [decide_eq_false hf]
    have HFF := hJ (HRS.out.2 (fun h => hf h.2.2.2))
    clear hf
    go_wp2_with fail
    refine (r4of_any 0 w50 (by decide)).mono ?_
    rintro e w51 ⟨s23, A23, n23, c23, t23, B23, m23, d23, rfl, hr23, hs23, hb⟩
    have HB51 := hJ hb
    have HR51hr23 := hJ hr23
    have HR51hs23 := hJ hs23
    clear hb hr23 hs23
    have HC1_7 := hJ (bt (bt HC1_5.out HB18.out) HB19.out)
    have HC1_10 := hJ (show Below x1.heap.size x1 v30 from Grew.below (bt (bt (bt (bt HC1_5.out HB18.out) HB19.out) HX24.out) HX29.out) HW30.out HO30o.out (HC1_7.out).size ((bt (bt (bt (bt HC1_5.out HB18.out) HB19.out) HX24.out) HX29.out)).size)
    have HC1_13 := hJ (bt (bt (bt HC1_10.out HB32.out) HB50.out) HB51.out)
    have HQ1x2w13 := hJ (BX.new HQ1x2.out HC1_13.out)
    have fz52_0 := HQ1x2w13.out.frozen 0
    have fc52_0 := HQ1x2w13.out.cell 0 rfl
    have fz52_1 := HQ1x2w13.out.frozen 1
    have fc52_1 := HQ1x2w13.out.cell 1 rfl
    have fz52_2 := HQ1x2w13.out.frozen 2
    have fc52_2 := HQ1x2w13.out.cell 2 rfl
    have fz52_3 := HQ1x2w13.out.frozen 3
    have fc52_3 := HQ1x2w13.out.cell 3 rfl
    obtain ⟨x52, hx52⟩ := nmz (World.setCell (World.setCell (World.setCell (World.setCell w51 ⟨w.heap.size + 2, 0, none⟩ (.bool s23)) ⟨w.heap.size + 2, 1, none⟩ (.slice A23 n23 c23)) ⟨w.heap.size + 2, 2, none⟩ (.bool t23)) ⟨w.heap.size + 2, 3, none⟩ (.slice B23 m23 d23))
    have HE52 := hJ (show sto w51 (w.heap.size + 2) 0 [.bool s23, .slice A23 n23 c23, .bool t23, .slice B23 m23 d23] = x52 from hx52)
    have HQ52s := hJ (show BX 41 x52 (w.heap.size + 2) #[.bool s23, .slice A23 n23 c23, .bool t23, .slice B23 m23 d23] by rw [← HE52.out]; exact BX.put HQ1x2w13.out _ _)
    have HC0_10 := hJ (show Below w.heap.size w v30 from Grew.below (bt (bt HC0_7.out HX24.out) HX29.out) HW30.out HO30o.out (HC0_7.out).size ((bt (bt HC0_7.out HX24.out) HX29.out)).size)
    have HC0_14 := hJ (show Below w.heap.size w x52 by rw [← HE52.out]; exact below_sto (bt (bt (bt HC0_10.out HB32.out) HB50.out) HB51.out) HG1x2.out _ _)
    have HR51hr23w14 := hJ (show RN x52 s23 A23 n23 c23 0 by rw [← HE52.out]; exact RNo.sto HR51hr23.out HQ1x2w13.out rfl _ _)
    have HR51hs23w14 := hJ (show RN x52 t23 B23 m23 d23 1 by rw [← HE52.out]; exact RNo.sto HR51hs23.out HQ1x2w13.out rfl _ _)
    go_wp2
    clear fz52_0 fc52_0 fz52_1 fc52_1 fz52_2 fc52_2 fz52_3 fc52_3 hx52
    exact bodyPost_ret (results_cell1 rfl _ _ _ _ _ _ _ rfl HQ52s.out Tryz.underlying41 rfl (by kernel_rfl)) rfl (by rw [HFF.out.1, HFF.out.2.1, HFF.out.2.2]; exact ⟨s23, A23, n23, c23, t23, B23, m23, d23, rfl, HR51hr23w14.out, HR51hs23w14.out, HC0_14.out⟩)
  ·(try rw [show ((4 : Nat) : Int) = 4 from rfl])
   have HO30w11 := hJ (OwnR.new HO30.out HB32.out)
   have HC0_10 := hJ (show Below w.heap.size w v30 from Grew.below (bt (bt HC0_7.out HX24.out) HX29.out) HW30.out HO30o.out (HC0_7.out).size ((bt (bt HC0_7.out HX24.out) HX29.out)).size)
   have HC0_11 := hJ (bt HC0_10.out HB32.out)
   have HS53 : Hid (∀ w', Below wl32.heap.size wl32 w' → (fun w' : World => w'.cell? ⟨ga5_9, 6, none⟩ = some (.bool s19) ∧ w'.cell? ⟨ga5_9, 7, none⟩ = some (.slice A19 n19 c19) ∧ w'.cell? ⟨ga5_9, 4, none⟩ = some (.bool s18) ∧ w'.cell? ⟨ga5_9, 5, none⟩ = some (.slice A18 n18 c18) ∧ Below w.heap.size w w') w') := hJ (fun w' hb => ⟨(OwnR.new HO30w11.out hb).at 6 rfl, (OwnR.new HO30w11.out hb).at 7 rfl, (OwnR.new HO30w11.out hb).at 4 rfl, (OwnR.new HO30w11.out hb).at 5 rfl, (bt HC0_11.out hb)⟩)
   have HC1_7 := hJ (bt (bt HC1_5.out HB18.out) HB19.out)
   have HC1_10 := hJ (show Below x1.heap.size x1 v30 from Grew.below (bt (bt (bt (bt HC1_5.out HB18.out) HB19.out) HX24.out) HX29.out) HW30.out HO30o.out (HC1_7.out).size ((bt (bt (bt (bt HC1_5.out HB18.out) HB19.out) HX24.out) HX29.out)).size)
   have HC1_11 := hJ (bt HC1_10.out HB32.out)
   have HQ1x2w11 := hJ (BX.new HQ1x2.out HC1_11.out)
   have HZ29_0w10 := hJ (show RN v30 s19 A19 n19 c19 L3 from RNo.grow HZ29_0.out HW30.out (fun _ => rfl))
   have HZ29_0w11 := hJ (RNo.new HZ29_0w10.out HB32.out)
   have HZ24_2w9 := hJ (RNo.new HZ24_2.out HX29.out)
   have HZ24_2w10 := hJ (show RN v30 s18 A18 n18 c18 L2 from RNo.grow HZ24_2w9.out HW30.out (fun _ => rfl))
   have HZ24_2w11 := hJ (RNo.new HZ24_2w10.out HB32.out)
   go_wp2_with fail
   obtain ⟨v53, hv53⟩ := nmz (World.drew wl32)
   have HX53 := hJ (show Below wl32.heap.size wl32 v53 by rw [← hv53]; exact (Below.refl _ _).drew)
   refine wp_region_held_drew (S := (fun w' : World => w'.cell? ⟨ga5_9, 6, none⟩ = some (.bool s19) ∧ w'.cell? ⟨ga5_9, 7, none⟩ = some (.slice A19 n19 c19) ∧ w'.cell? ⟨ga5_9, 4, none⟩ = some (.bool s18) ∧ w'.cell? ⟨ga5_9, 5, none⟩ = some (.slice A18 n18 c18) ∧ Below w.heap.size w w')) (by kernel_rfl) ?_ (fun hHeld => ?_)
   ·rw [hv53]
    exact HS53.out _ HX53.out
   rw [hv53] at hHeld ⊢
   clear hv53
   refine tq 0 ?_
   try simp only [PT]
   refine tq 1 ?_
   try simp only [PT]
   refine tq 2 ?_
   try simp only [PT]
   refine tq 3 ?_
   try simp only [PT]
   refine tq 4 ?_
   try simp only [PT]
   refine tq 5 ?_
   try simp only [PT]
   refine wpAnyH_ready (rs := [6]) (by kernel_rfl) (by simp) ?_
   refine .cons rfl (fun K hK => ?_) .nil
   go_simp
   go_at_call 24
   refine (r4make_any L3 L2 (k + k + 1) s19 A19 n19 c19 s18 A18 n18 c18 v53 (RNo.new HZ29_0w11.out HX53.out) (RNo.new HZ24_2w11.out HX53.out) (by have := HK.out; omega) HLB3.out (B2.le HLB2.out (by omega))).mono ?_
   rintro e v54 ⟨s24, A24, n24, c24, t24, B24, m24, d24, rfl, hr24, hs24, hb⟩
   have HB54 := hJ hb
   have HR54hr24 := hJ hr24
   have HR54hs24 := hJ hs24
   clear hb hr24 hs24
   go_wp2_with fail
   have HX54 := hJ (bt HX53.out HB54.out)
   clear hHeld
   refine hK.out _ _ (HS53.out _ HX54.out) (fun hHeld => ?_)
   clear hK K
   try simp only [PT]
   refine tq 7 ?_
   try simp only [PT]
   refine tq 8 ?_
   try simp only [PT]
   refine wpAnyH_ready (rs := [9]) (by kernel_rfl) (by simp) ?_
   refine .cons rfl (fun K hK => ?_) .nil
   have HP55 := hJ (BX.new HQ1x2w11.out HX54.out)
   have z55_0 := HP55.out.cell 0 rfl
   have y55_0 := HP55.out.frozen 0
   have z55_1 := HP55.out.cell 1 rfl
   have y55_1 := HP55.out.frozen 1
   have z55_2 := HP55.out.cell 2 rfl
   have y55_2 := HP55.out.frozen 2
   have z55_3 := HP55.out.cell 3 rfl
   have y55_3 := HP55.out.frozen 3
   have z55 := HP55.out.lt
   go_simp
   obtain ⟨v55, hV⟩ := nmz (World.setCell (World.setCell (World.setCell (World.setCell v54 ⟨w.heap.size + 2, 0, none⟩ (.bool s24)) ⟨w.heap.size + 2, 1, none⟩ (.slice A24 n24 c24)) ⟨w.heap.size + 2, 2, none⟩ (.bool t24)) ⟨w.heap.size + 2, 3, none⟩ (.slice B24 m24 d24))
   rw [hV]
   have HE55 := hJ (show sto v54 (w.heap.size + 2) 0 [.bool s24, .slice A24 n24 c24, .bool t24, .slice B24 m24 d24] = v55 from hV)
   clear hV z55 z55_0 y55_0 z55_1 y55_1 z55_2 y55_2 z55_3 y55_3
   have HX55 := hJ (show Below w.heap.size w v55 by rw [← HE55.out]; exact below_sto (bt HC0_11.out HX54.out) HG1x2.out _ _)
   have HW55_0 := hJ (show OwnR noD v55 x19.heap.size 24 2 (.slice (some ⟨ga5_9, 0, none⟩) 4 cp5_9) 4 [.bool s16, .slice A16 n16 c16, .bool s17, .slice A17 n17 c17, .bool s18, .slice A18 n18 c18, .bool s19, .slice A19 n19 c19] by rw [← HE55.out]; exact OwnR.far (OwnR.new HO30w11.out HX54.out) (at_own (show ga5_9 ≠ w.heap.size + 2 by have h1 := HL1x2.out; have h2 := HG30.out; have h3 := (HC1_7.out).size; omega)) _ _)
   clear hHeld
   refine hK.out _ _ (⟨HW55_0.out.at 6 rfl, HW55_0.out.at 7 rfl, HW55_0.out.at 4 rfl, HW55_0.out.at 5 rfl, HX55.out⟩) (fun hHeld => ?_)
   clear hK K
   try simp only [PT]
   refine tq 10 ?_
   try simp only [PT]
   refine wpAnyH_done (by kernel_rfl) ?_ _
   clear hHeld
   have HQ55s := hJ (show BX 41 v55 (w.heap.size + 2) #[.bool s24, .slice A24 n24 c24, .bool t24, .slice B24 m24 d24] by rw [← HE55.out]; exact BX.put HP55.out _ _)
   have HC0_13 := hJ (show Below w.heap.size w v55 by rw [← HE55.out]; exact below_sto (bt HC0_11.out HX54.out) HG1x2.out _ _)
   have HR54hr24w13 := hJ (show RN v55 s24 A24 n24 c24 (mkP L3 L2) by rw [← HE55.out]; exact RNo.sto HR54hr24.out HP55.out rfl _ _)
   have HR54hs24w13 := hJ (show RN v55 t24 B24 m24 d24 (mkQ L3 L2) by rw [← HE55.out]; exact RNo.sto HR54hs24.out HP55.out rfl _ _)
   go_wp2
   exact bodyPost_ret (results_cell1 rfl _ _ _ _ _ _ _ rfl HQ55s.out Tryz.underlying41 rfl (by kernel_rfl)) rfl (by rw [(HRS.out.1 ⟨HI32.out.1 (by omega), HI32.out.2.1 (by omega), HI32.out.2.2.1 (by omega), HI32.out.2.2.2 (by omega)⟩).1, (HRS.out.1 ⟨HI32.out.1 (by omega), HI32.out.2.1 (by omega), HI32.out.2.2.1 (by omega), HI32.out.2.2.2 (by omega)⟩).2.1, (HRS.out.1 ⟨HI32.out.1 (by omega), HI32.out.2.1 (by omega), HI32.out.2.2.1 (by omega), HI32.out.2.2.2 (by omega)⟩).2.2]; exact ⟨s24, A24, n24, c24, t24, B24, m24, d24, rfl, HR54hr24w13.out, HR54hs24w13.out, HC0_13.out⟩)
end Go.Proofs.YtbhnaffbgggabaaGreat
