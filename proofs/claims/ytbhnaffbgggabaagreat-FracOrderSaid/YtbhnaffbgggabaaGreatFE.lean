/- Contracts of the program's fractions: compareByParts. Conditions: as each statement has them. -/
import Derived.Test.YtbhnaffbgggabaaGreatFY
import Derived.Deep.RegionHeld3
import Derived.Deep.LoopGhost
namespace Go.Proofs.YtbhnaffbgggabaaGreat
open Go.RowKit
attribute [local go_sem ↓] Go.wp_at_zero Go.wp_at_succ
theorem quot_lt {P Q R S : Int} (hQ : 0 < Q) (hS : 0 < S) (h : P / Q < R / S) : P * S < R * Q := by
 have e1 : P < (P / Q + 1) * Q := Int.lt_ediv_add_one_mul_self P hQ
 have e2 : R / S * S ≤ R := Int.ediv_mul_le R (by omega)
 have e3 : (P / Q + 1) * Q ≤ R / S * Q := Int.mul_le_mul_of_nonneg_right (by omega) (by omega)
 have e4 : P * S < R / S * Q * S := Int.mul_lt_mul_of_pos_right (by omega) hS
 have e5 : R / S * Q * S = R / S * S * Q := by rw [Int.mul_assoc, Int.mul_comm Q S, ← Int.mul_assoc]
 have e6 : R / S * S * Q ≤ R * Q := Int.mul_le_mul_of_nonneg_right e2 (by omega)
 omega
theorem cmp_quot_ne {P Q R S : Int} (hQ : 0 < Q) (hS : 0 < S) (h : cmpI (P / Q) (R / S) ≠ 0) : cmpI (P * S) (R * Q) = cmpI (P / Q) (R / S) := by
 rcases Int.lt_trichotomy (P / Q) (R / S) with h1 | h1 | h1
 ·rw [cmpI_lt' h1, cmpI_lt' (quot_lt hQ hS h1)]
 ·exact absurd (cmpI_same h1) h
 ·rw [cmpI_gt' h1, cmpI_gt' (quot_lt hS hQ h1)]
theorem cmp_quot_eq {P Q R S : Int} (h : cmpI (P / Q) (R / S) = 0) : cmpI (P * S) (R * Q) = cmpI (P % Q * S) (R % S * Q) := by
 have he : P / Q = R / S := by
  rcases Int.lt_trichotomy (P / Q) (R / S) with h1 | h1 | h1
  ·rw [cmpI_lt' h1] at h; omega
  ·exact h1
  ·rw [cmpI_gt' h1] at h; omega
 have e1 : P * S = Q * (P / Q) * S + P % Q * S := by rw [← Int.add_mul, Int.mul_ediv_add_emod]
 have e2 : R * Q = S * (R / S) * Q + R % S * Q := by rw [← Int.add_mul, Int.mul_ediv_add_emod]
 have e3 : S * (R / S) * Q = Q * (P / Q) * S := by rw [he, Int.mul_comm S, Int.mul_comm Q, Int.mul_assoc, Int.mul_assoc, Int.mul_comm S Q]
 rw [e1, e2, e3, cmpI_add]
theorem cmp_sign {a b Q S : Int} (hQ : 0 < Q) (hS : 0 < S) (ha : 0 ≤ a) (hb : 0 ≤ b) (h : a = 0 ∨ b = 0) : cmpI (a * S) (b * Q) = cmpI (cmpI a 0) (cmpI b 0) := by
 rcases Int.lt_or_eq_of_le ha with ha | ha
 ·rcases h with h | h
  ·omega
  ·subst h
   have := Int.mul_pos ha hS
   rw [Int.zero_mul, cmpI_gt' this, cmpI_gt' ha]; rfl
 ·subst ha
  rcases Int.lt_or_eq_of_le hb with hb | hb
  ·have := Int.mul_pos hb hQ
   rw [Int.zero_mul, cmpI_lt' this, cmpI_gt' hb]; rfl
  ·subst hb
   rw [Int.zero_mul, Int.zero_mul]; rfl
theorem cmpI_cases (a b : Int) : (a < b ∧ cmpI a b = -1) ∨ (a = b ∧ cmpI a b = 0) ∨ (b < a ∧ cmpI a b = 1) := by
 rcases Int.lt_trichotomy a b with h | h | h
 ·exact .inl ⟨h, cmpI_lt' h⟩
 ·exact .inr (.inl ⟨h, cmpI_same h⟩)
 ·exact .inr (.inr ⟨h, cmpI_gt' h⟩)
set_option maxRecDepth 100000 in
set_option maxHeartbeats 6400000 in
theorem fparts_any (p q r s : Int) (sa sb sd se : Bool) (Aa Ab Ad Ae : Option Addr) (na ca nb cb nd cd ne ce : Nat) (w : World) (hx : PI w sa Aa na ca p) (hy : PI w sb Ab nb cb q) (hz : PI w sd Ad nd cd r) (hv : PI w se Ae ne ce s) (hq : 0 < q) (hs : 0 < s) (hlp : p.natAbs < lim) (hlq : q.natAbs < lim) (hlr : r.natAbs < lim) (hls : s.natAbs < lim) :
  Calls Tryz.prog 116 #[.agg #[.bool sa, .slice Aa na ca], .agg #[.bool sb, .slice Ab nb cb], .agg #[.bool sd, .slice Ad nd cd], .agg #[.bool se, .slice Ae ne ce]] w fun e w' => e = .returned (.int .i64 (cmpI (p * s) (r * q))) ∧ Below w.heap.size w w' := by
 obtain ⟨W, hW⟩ : ∃ W, (((w.alloc (.cells #[.bool sa, .slice Aa na ca] 33)).alloc (.cells #[.bool sb, .slice Ab nb cb] 33)).alloc (.cells #[.bool sd, .slice Ad nd cd] 33)).alloc (.cells #[.bool se, .slice Ae ne ce] 33) = W := ⟨_, rfl⟩
 have HK := hJ (show Below w.heap.size w W by rw [← hW]; exact (((((Below.refl _ w).alloc (Nat.le_refl _) _).alloc (by simp) _).alloc (by simp; omega) _).alloc (by simp; omega) _))
 have HPa := hJ (show P2 33 W w.heap.size (.bool sa) (.slice Aa na ca) by rw [← hW]; exact ((W3_a _ w _ _ _ _ _ _).alloc _))
 have HPb := hJ (show P2 33 W (w.heap.size + 1) (.bool sb) (.slice Ab nb cb) by rw [← hW]; exact ((W3_b _ w _ _ _ _ _ _).alloc _))
 have HPd := hJ (show P2 33 W (w.heap.size + 1 + 1) (.bool sd) (.slice Ad nd cd) by rw [← hW]; exact ((W3_z _ w _ _ _ _ _ _).alloc _))
 have HPe := hJ (show P2 33 W (w.heap.size + 1 + 1 + 1) (.bool se) (.slice Ae ne ce) by
  rw [← hW]
  have h0 := P2.lit (((w.alloc (.cells #[.bool sa, .slice Aa na ca] 33)).alloc (.cells #[.bool sb, .slice Ab nb cb] 33)).alloc (.cells #[.bool sd, .slice Ad nd cd] 33)) 33 (.bool se) (.slice Ae ne ce)
  rw [World.size_alloc, World.size_alloc, World.size_alloc] at h0
  exact h0)
 have HRa := hJ (PIo.new hx HK.out)
 have HRb := hJ (PIo.new hy HK.out)
 have HRd := hJ (PIo.new hz HK.out)
 have HRe := hJ (PIo.new hv HK.out)
 obtain ⟨h, hh⟩ : ∃ h, w.heap.size = h := ⟨_, rfl⟩
 have HH := hJ hh
 rw [hh] at HPa HPb HPd HPe
 have HL0 := hJ (And.intro hq (And.intro hs (And.intro hlp (And.intro hlq (And.intro hlr hls)))))
 clear hx hy hz hv hq hs hlp hlq hlr hls
 go_enter Tryz.func116, Tryz.ntmps116
 go_wp2_with fail
 clear hW hh
 go_loopg [8] (q.natAbs + s.natAbs) (fun g v wr => ∃ (P Q R S : Int) (sa sb sd se : Bool) (Aa Ab Ad Ae : Option Addr) (na nb nd ne ca cb cd ce : Nat), Q.natAbs + S.natAbs = g ∧ P2 33 wr h (.bool sa) (.slice Aa na ca) ∧ P2 33 wr (h + 1) (.bool sb) (.slice Ab nb cb) ∧ P2 33 wr (h + 1 + 1) (.bool sd) (.slice Ad nd cd) ∧ P2 33 wr (h + 1 + 1 + 1) (.bool se) (.slice Ae ne ce) ∧ PI wr sa Aa na ca P ∧ PI wr sb Ab nb cb Q ∧ PI wr sd Ad nd cd R ∧ PI wr se Ae ne ce S ∧ (0 < Q ∧ 0 < S ∧ P.natAbs < lim ∧ Q.natAbs < lim ∧ R.natAbs < lim ∧ S.natAbs < lim) ∧ cmpI (P * S) (R * Q) = cmpI (p * s) (r * q) ∧ Below w.heap.size w wr)
 case atStart => exact ⟨p, q, r, s, sa, sb, sd, se, Aa, Ab, Ad, Ae, na, nb, nd, ne, ca, cb, cd, ce, rfl, HPa.out, HPb.out, HPd.out, HPe.out, HRa.out, HRb.out, HRd.out, HRe.out, HL0.out, rfl, HK.out⟩
 case round =>
  clear HPa HPb HPd HPe HRa HRb HRd HRe HL0 HK
  obtain ⟨P, Q, R, S, sa, sb, sd, se, Aa, Ab, Ad, Ae, na, nb, nd, ne, ca, cb, cd, ce, hg, hpa, hpb, hpd, hpe, hra, hrb, hrd, hre, hl, hc, hbel⟩ := hrel
  have HG := hJ hg
  have HL := hJ hl
  have HC := hJ hc
  have HB := hJ hbel
  have hna := plim hra hl.2.2.1
  have hnb := plim hrb hl.2.2.2.1
  have hnd := plim hrd hl.2.2.2.2.1
  have hne := plim hre hl.2.2.2.2.2
  have HPa := hJ hpa
  have HPb := hJ hpb
  have HPd := hJ hpd
  have HPe := hJ hpe
  have HRa := hJ hra
  have HRb := hJ hrb
  have HRd := hJ hrd
  have HRe := hJ hre
  clear hg hpa hpb hpd hpe hra hrb hrd hre hl hc hbel
  obtain ⟨a0, a1⟩ := HPa.out.cells
  obtain ⟨b0, b1⟩ := HPb.out.cells
  go_wp2_with fail
  refine (pdiv_any P Q sa sb Aa Ab na ca nb cb wr HRa.out HRb.out (by omega) (by omega) (by have := HL.out.1; omega)).mono ?_
  have HM1 := hJ (show 0 ≤ P % Q ∧ P % Q < Q from ⟨Int.emod_nonneg _ (by have := HL.out.1; omega), Int.emod_lt_of_pos _ HL.out.1⟩)
  have HD1 := hJ (show (P / Q).natAbs < lim from Nat.lt_of_le_of_lt (Int.natAbs_ediv_le_natAbs _ _) HL.out.2.2.1)
  have HM2 := hJ (show 0 ≤ R % S ∧ R % S < S from ⟨Int.emod_nonneg _ (by have := HL.out.2.1; omega), Int.emod_lt_of_pos _ HL.out.2.1⟩)
  have HD2 := hJ (show (R / S).natAbs < lim from Nat.lt_of_le_of_lt (Int.natAbs_ediv_le_natAbs _ _) HL.out.2.2.2.2.1)
  have HQN := hJ (fun h : cmpI (P / Q) (R / S) ≠ 0 => (cmp_quot_ne HL.out.1 HL.out.2.1 h).symm.trans HC.out)
  have HQE := hJ (fun h : cmpI (P / Q) (R / S) = 0 => (cmp_quot_eq h).symm.trans HC.out)
  obtain ⟨X, hX⟩ : ∃ X, P / Q = X := ⟨_, rfl⟩
  obtain ⟨x, hx⟩ : ∃ X, P % Q = X := ⟨_, rfl⟩
  obtain ⟨Y, hY⟩ : ∃ X, R / S = X := ⟨_, rfl⟩
  obtain ⟨y, hy⟩ : ∃ X, R % S = X := ⟨_, rfl⟩
  have HEQ := hJ (And.intro hX (And.intro hx (And.intro hY hy)))
  rw [hX] at HD1 HQN HQE
  rw [hY] at HD2 HQN HQE
  rw [hx] at HM1 HQE
  rw [hy] at HM2 HQE
  rw [hX, hx]
  clear hX hx hY hy
  rintro e w1 ⟨sf, Af, nf, cf, sg, Ag, ng, cg, rfl, hr1, hr2, hb1⟩
  obtain ⟨x1, hy1⟩ : ∃ x, W2 33 w1 (.bool sf) (.slice Af nf cf) (.bool sg) (.slice Ag ng cg) = x := ⟨_, rfl⟩
  have hx1 : (w1.alloc (.cells #[.bool sf, .slice Af nf cf] 33)).alloc (.cells #[.bool sg, .slice Ag ng cg] 33) = x1 := hy1
  have HBk := hJ (show Below wr.heap.size wr x1 by rw [← hy1]; exact bt hb1 (W2_k _ _ _ _ _ _))
  have HPf := hJ (show P2 33 x1 w1.heap.size (.bool sf) (.slice Af nf cf) by rw [← hy1]; exact W2_a _ _ _ _ _ _)
  have HPg := hJ (show P2 33 x1 (w1.heap.size + 1) (.bool sg) (.slice Ag ng cg) by rw [← hy1]; exact W2_z _ _ _ _ _ _)
  have HRf := hJ (show PI x1 sf Af nf cf X by rw [← hy1]; exact PIo.new hr1 (W2_k _ _ _ _ _ _))
  have HRg := hJ (show PI x1 sg Ag ng cg x by rw [← hy1]; exact PIo.new hr2 (W2_k _ _ _ _ _ _))
  obtain ⟨g1, hg1⟩ : ∃ g, w1.heap.size = g := ⟨_, rfl⟩
  have HS1 := hJ (show wr.heap.size ≤ g1 by rw [← hg1]; exact hb1.size)
  rw [hg1] at HPf HPg
  clear hr1 hr2 hb1 hy1
  have HN1 := hJ (show h + 1 + 1 + 1 < g1 by have h1 := HPe.out.lt; have h2 := HS1.out; omega)
  have HPa_1 := hJ (HPa.out.new HBk.out)
  have HRa_1 := hJ (PIo.new HRa.out HBk.out)
  have HPb_1 := hJ (HPb.out.new HBk.out)
  have HRb_1 := hJ (PIo.new HRb.out HBk.out)
  have HPd_1 := hJ (HPd.out.new HBk.out)
  have HRd_1 := hJ (PIo.new HRd.out HBk.out)
  have HPe_1 := hJ (HPe.out.new HBk.out)
  have HRe_1 := hJ (PIo.new HRe.out HBk.out)
  have HB_1 := hJ (bt HB.out HBk.out)
  clear HPa HRa HPb HRb HPd HRd HPe HRe HB HBk
  clear a0 a1 b0 b1
  obtain ⟨d0, d1⟩ := HPd_1.out.cells
  obtain ⟨e0, e1⟩ := HPe_1.out.cells
  go_wp2_with fail
  clear hx1 hg1
  refine (pdiv_any R S sd se Ad Ae nd cd ne ce x1 HRd_1.out HRe_1.out (by omega) (by omega) (by have := HL.out.2.1; omega)).mono ?_
  rw [HEQ.out.2.2.1, HEQ.out.2.2.2]
  rintro e w2 ⟨si, Ai, ni, ci, sj, Aj, nj, cj, rfl, hr1, hr2, hb1⟩
  obtain ⟨x2, hy2⟩ : ∃ x, W2 33 w2 (.bool si) (.slice Ai ni ci) (.bool sj) (.slice Aj nj cj) = x := ⟨_, rfl⟩
  have hx2 : (w2.alloc (.cells #[.bool si, .slice Ai ni ci] 33)).alloc (.cells #[.bool sj, .slice Aj nj cj] 33) = x2 := hy2
  have HBk := hJ (show Below x1.heap.size x1 x2 by rw [← hy2]; exact bt hb1 (W2_k _ _ _ _ _ _))
  have HPi := hJ (show P2 33 x2 w2.heap.size (.bool si) (.slice Ai ni ci) by rw [← hy2]; exact W2_a _ _ _ _ _ _)
  have HPj := hJ (show P2 33 x2 (w2.heap.size + 1) (.bool sj) (.slice Aj nj cj) by rw [← hy2]; exact W2_z _ _ _ _ _ _)
  have HRi := hJ (show PI x2 si Ai ni ci Y by rw [← hy2]; exact PIo.new hr1 (W2_k _ _ _ _ _ _))
  have HRj := hJ (show PI x2 sj Aj nj cj y by rw [← hy2]; exact PIo.new hr2 (W2_k _ _ _ _ _ _))
  obtain ⟨g2, hg2⟩ : ∃ g, w2.heap.size = g := ⟨_, rfl⟩
  have HS2 := hJ (show x1.heap.size ≤ g2 by rw [← hg2]; exact hb1.size)
  rw [hg2] at HPi HPj
  clear hr1 hr2 hb1 hy2
  have HN2 := hJ (show g1 + 1 < g2 by have h1 := HPg.out.lt; have h2 := HS2.out; omega)
  have HPa_2 := hJ (HPa_1.out.new HBk.out)
  have HRa_2 := hJ (PIo.new HRa_1.out HBk.out)
  have HPb_2 := hJ (HPb_1.out.new HBk.out)
  have HRb_2 := hJ (PIo.new HRb_1.out HBk.out)
  have HPd_2 := hJ (HPd_1.out.new HBk.out)
  have HRd_2 := hJ (PIo.new HRd_1.out HBk.out)
  have HPe_2 := hJ (HPe_1.out.new HBk.out)
  have HRe_2 := hJ (PIo.new HRe_1.out HBk.out)
  have HB_2 := hJ (bt HB_1.out HBk.out)
  have HPf_2 := hJ (HPf.out.new HBk.out)
  have HPg_2 := hJ (HPg.out.new HBk.out)
  have HRf_2 := hJ (PIo.new HRf.out HBk.out)
  have HRg_2 := hJ (PIo.new HRg.out HBk.out)
  clear HPa_1 HRa_1 HPb_1 HRb_1 HPd_1 HRd_1 HPe_1 HRe_1 HB_1 HPf HPg HRf HRg HBk
  clear d0 d1 e0 e1
  obtain ⟨f0, f1⟩ := HPf_2.out.cells
  obtain ⟨i0, i1⟩ := HPi.out.cells
  go_wp2_with fail
  clear hx2 hg2
  refine (pcompare_any X Y sf si Af Ai nf cf ni ci x2 HRf_2.out HRi.out (by have := plim HRf_2.out HD1.out; omega) (by have := plim HRi.out HD2.out; omega)).mono ?_
  obtain ⟨u, hu⟩ : ∃ u, cmpI X Y = u := ⟨_, rfl⟩
  rw [hu] at HQN HQE ⊢
  clear hu
  rintro e w3 ⟨rfl, hb3⟩
  have HBk := hJ hb3
  clear hb3 f0 f1 i0 i1
  have HPa_3 := hJ (HPa_2.out.new HBk.out)
  have HRa_3 := hJ (PIo.new HRa_2.out HBk.out)
  have HPb_3 := hJ (HPb_2.out.new HBk.out)
  have HRb_3 := hJ (PIo.new HRb_2.out HBk.out)
  have HPd_3 := hJ (HPd_2.out.new HBk.out)
  have HRd_3 := hJ (PIo.new HRd_2.out HBk.out)
  have HPe_3 := hJ (HPe_2.out.new HBk.out)
  have HRe_3 := hJ (PIo.new HRe_2.out HBk.out)
  have HB_3 := hJ (bt HB_2.out HBk.out)
  have HPf_3 := hJ (HPf_2.out.new HBk.out)
  have HPg_3 := hJ (HPg_2.out.new HBk.out)
  have HRf_3 := hJ (PIo.new HRf_2.out HBk.out)
  have HRg_3 := hJ (PIo.new HRg_2.out HBk.out)
  have HPi_3 := hJ (HPi.out.new HBk.out)
  have HPj_3 := hJ (HPj.out.new HBk.out)
  have HRi_3 := hJ (PIo.new HRi.out HBk.out)
  have HRj_3 := hJ (PIo.new HRj.out HBk.out)
  clear HPa_2 HRa_2 HPb_2 HRb_2 HPd_2 HRd_2 HPe_2 HRe_2 HB_2 HPf_2 HPg_2 HRf_2 HRg_2 HPi HPj HRi HRj HBk
  by_cases hu : u = 0
  ·subst hu
   have HQZ := hJ (HQE.out rfl)
   clear HQE HQN
   obtain ⟨g0, g1⟩ := HPg_3.out.cells
   go_wp2_with fail
   have hxl : x.natAbs < lim := by have := HM1.out; have := HL.out.2.2.2.1; omega
   have hyl : y.natAbs < lim := by have := HM2.out; have := HL.out.2.2.2.2.2; omega
   have hnx := plim HRg_3.out hxl
   have hny := plim HRj_3.out hyl
   have HXY := hJ (And.intro hxl hyl)
   clear hxl hyl
   refine (sign_any x sg Ag ng cg w3 HRg_3.out (by omega)).mono ?_
   obtain ⟨a, ha⟩ : ∃ a, cmpI x 0 = a := ⟨_, rfl⟩
   have HA := hJ ha
   rw [ha]
   clear ha
   rintro e w4 ⟨rfl, hb4⟩
   have HBk := hJ hb4
   clear hb4 g0 g1
   have HPa_4 := hJ (HPa_3.out.new HBk.out)
   have HRa_4 := hJ (PIo.new HRa_3.out HBk.out)
   have HPb_4 := hJ (HPb_3.out.new HBk.out)
   have HRb_4 := hJ (PIo.new HRb_3.out HBk.out)
   have HPd_4 := hJ (HPd_3.out.new HBk.out)
   have HRd_4 := hJ (PIo.new HRd_3.out HBk.out)
   have HPe_4 := hJ (HPe_3.out.new HBk.out)
   have HRe_4 := hJ (PIo.new HRe_3.out HBk.out)
   have HB_4 := hJ (bt HB_3.out HBk.out)
   have HPf_4 := hJ (HPf_3.out.new HBk.out)
   have HPg_4 := hJ (HPg_3.out.new HBk.out)
   have HRf_4 := hJ (PIo.new HRf_3.out HBk.out)
   have HRg_4 := hJ (PIo.new HRg_3.out HBk.out)
   have HPi_4 := hJ (HPi_3.out.new HBk.out)
   have HPj_4 := hJ (HPj_3.out.new HBk.out)
   have HRi_4 := hJ (PIo.new HRi_3.out HBk.out)
   have HRj_4 := hJ (PIo.new HRj_3.out HBk.out)
   clear HPa_3 HRa_3 HPb_3 HRb_3 HPd_3 HRd_3 HPe_3 HRe_3 HB_3 HPf_3 HPg_3 HRf_3 HRg_3 HPi_3 HPj_3 HRi_3 HRj_3 HBk
   by_cases hx0 : x = 0
   ·have ha0 : a = 0 := by rw [← HA.out, hx0]; rfl
    have HOR := hJ (show x = 0 ∨ y = 0 from .inl hx0)
    subst ha0
    clear hx0
    have HRES := hJ (show cmpI (cmpI x 0) (cmpI y 0) = cmpI (p * s) (r * q) by rw [← cmp_sign HL.out.1 HL.out.2.1 HM1.out.1 HM2.out.1 HOR.out]; exact HQZ.out)
    let T := fun w' : World => w'.cell? ⟨g1 + 1, 0, none⟩ = some (.bool sg) ∧ w'.cell? ⟨g1 + 1, 1, none⟩ = some (.slice Ag ng cg) ∧ w'.cell? ⟨g2 + 1, 0, none⟩ = some (.bool sj) ∧ w'.cell? ⟨g2 + 1, 1, none⟩ = some (.slice Aj nj cj) ∧ Below w4.heap.size w4 w'
    have K0 : Hid (∀ w', Below w4.heap.size w4 w' → T w') := hJ (fun w' hb => ⟨(HPg_4.out.new hb).cells.1, (HPg_4.out.new hb).cells.2, (HPj_4.out.new hb).cells.1, (HPj_4.out.new hb).cells.2, hb⟩)
    have K1 : Hid (∀ w', T w' → Calls Tryz.prog 98 #[.agg #[.bool sg, .slice Ag ng cg]] w' fun e w'' => e = .returned (.int .i64 (cmpI x 0)) ∧ T w'') :=
     hJ (fun w' h => (sign_any x sg Ag ng cg w' (PIo.new HRg_4.out h.2.2.2.2) (by omega)).mono (fun e w'' ⟨he, hb⟩ => ⟨he, K0.out _ (bt h.2.2.2.2 hb)⟩))
    have K2 : Hid (∀ w', T w' → Calls Tryz.prog 98 #[.agg #[.bool sj, .slice Aj nj cj]] w' fun e w'' => e = .returned (.int .i64 (cmpI y 0)) ∧ T w'') :=
     hJ (fun w' h => (sign_any y sj Aj nj cj w' (PIo.new HRj_4.out h.2.2.2.2) (by omega)).mono (fun e w'' ⟨he, hb⟩ => ⟨he, K0.out _ (bt h.2.2.2.2 hb)⟩))
    obtain ⟨a', ha'⟩ : ∃ a, cmpI x 0 = a := ⟨_, rfl⟩
    obtain ⟨b', hb'⟩ : ∃ a, cmpI y 0 = a := ⟨_, rfl⟩
    rw [ha'] at HRES K1
    rw [hb'] at HRES K2
    clear ha' hb'
    have K3 : Hid (∀ w', Calls Tryz.prog 176 #[.int .i64 a', .int .i64 b'] w' fun e w'' => e = .returned (.int .i64 (cmpI a' b')) ∧ w' = w'') := hJ (fun w' => cmpi_any a' b' (cmpI a' b') w' (cmpI_cases a' b'))
    have bR := K0.out _ (Below.refl w4.heap.size w4).drew
    go_wp2_with fail
    go_region_held3 (fun w' => w'.cell? ⟨g1 + 1, 0, none⟩ = some (.bool sg) ∧ w'.cell? ⟨g1 + 1, 1, none⟩ = some (.slice Ag ng cg) ∧ w'.cell? ⟨g2 + 1, 0, none⟩ = some (.bool sj) ∧ w'.cell? ⟨g2 + 1, 1, none⟩ = some (.slice Aj nj cj) ∧ Below w4.heap.size w4 w') (first | assumption | exact bR | go_keep)
     (first | (go_at_call_of 98 (Value.agg #[.bool sg, .slice Ag ng cg]); refine (K1.out _ ?_).mono ?_; assumption; rintro e w7 ⟨rfl, hc7⟩) | (go_at_call_of 98 (Value.agg #[.bool sj, .slice Aj nj cj]); refine (K2.out _ ?_).mono ?_; assumption; rintro e w8 ⟨rfl, hc8⟩) | (go_at_call 176; refine (K3.out _).mono ?_; rintro e w9 ⟨rfl, rfl⟩))
    all_goals
     rename_i hlast
     have HLB := hJ hlast.2.2.2.2
     clear hlast
     go_wp2
     go_ret
     exact ⟨by rw [← HRES.out]; rfl, bt HB_4.out HLB.out⟩
   ·have ha0 : (a == 0) = false := by rw [← HA.out]; exact cmpI_zero hx0
    have HX0 := hJ hx0
    clear hx0
    obtain ⟨j0, j1⟩ := HPj_4.out.cells
    go_wp2_with fail
    refine (sign_any y sj Aj nj cj w4 HRj_4.out (by omega)).mono ?_
    obtain ⟨b, hb⟩ : ∃ a, cmpI y 0 = a := ⟨_, rfl⟩
    have HBV := hJ hb
    rw [hb]
    clear hb
    rintro e w5 ⟨rfl, hb5⟩
    have HBk := hJ hb5
    clear hb5 j0 j1
    have HPa_5 := hJ (HPa_4.out.new HBk.out)
    have HRa_5 := hJ (PIo.new HRa_4.out HBk.out)
    have HPb_5 := hJ (HPb_4.out.new HBk.out)
    have HRb_5 := hJ (PIo.new HRb_4.out HBk.out)
    have HPd_5 := hJ (HPd_4.out.new HBk.out)
    have HRd_5 := hJ (PIo.new HRd_4.out HBk.out)
    have HPe_5 := hJ (HPe_4.out.new HBk.out)
    have HRe_5 := hJ (PIo.new HRe_4.out HBk.out)
    have HB_5 := hJ (bt HB_4.out HBk.out)
    have HPf_5 := hJ (HPf_4.out.new HBk.out)
    have HPg_5 := hJ (HPg_4.out.new HBk.out)
    have HRf_5 := hJ (PIo.new HRf_4.out HBk.out)
    have HRg_5 := hJ (PIo.new HRg_4.out HBk.out)
    have HPi_5 := hJ (HPi_4.out.new HBk.out)
    have HPj_5 := hJ (HPj_4.out.new HBk.out)
    have HRi_5 := hJ (PIo.new HRi_4.out HBk.out)
    have HRj_5 := hJ (PIo.new HRj_4.out HBk.out)
    clear HPa_4 HRa_4 HPb_4 HRb_4 HPd_4 HRd_4 HPe_4 HRe_4 HB_4 HPf_4 HPg_4 HRf_4 HRg_4 HPi_4 HPj_4 HRi_4 HRj_4 HBk
    by_cases hy0 : y = 0
    ·have hb0 : b = 0 := by rw [← HBV.out, hy0]; rfl
     have HOR := hJ (show x = 0 ∨ y = 0 from .inr hy0)
     subst hb0
     clear hy0
     have HRES := hJ (show cmpI (cmpI x 0) (cmpI y 0) = cmpI (p * s) (r * q) by rw [← cmp_sign HL.out.1 HL.out.2.1 HM1.out.1 HM2.out.1 HOR.out]; exact HQZ.out)
     let T := fun w' : World => w'.cell? ⟨g1 + 1, 0, none⟩ = some (.bool sg) ∧ w'.cell? ⟨g1 + 1, 1, none⟩ = some (.slice Ag ng cg) ∧ w'.cell? ⟨g2 + 1, 0, none⟩ = some (.bool sj) ∧ w'.cell? ⟨g2 + 1, 1, none⟩ = some (.slice Aj nj cj) ∧ Below w5.heap.size w5 w'
     have K0 : Hid (∀ w', Below w5.heap.size w5 w' → T w') := hJ (fun w' hb => ⟨(HPg_5.out.new hb).cells.1, (HPg_5.out.new hb).cells.2, (HPj_5.out.new hb).cells.1, (HPj_5.out.new hb).cells.2, hb⟩)
     have K1 : Hid (∀ w', T w' → Calls Tryz.prog 98 #[.agg #[.bool sg, .slice Ag ng cg]] w' fun e w'' => e = .returned (.int .i64 (cmpI x 0)) ∧ T w'') :=
      hJ (fun w' h => (sign_any x sg Ag ng cg w' (PIo.new HRg_5.out h.2.2.2.2) (by omega)).mono (fun e w'' ⟨he, hb⟩ => ⟨he, K0.out _ (bt h.2.2.2.2 hb)⟩))
     have K2 : Hid (∀ w', T w' → Calls Tryz.prog 98 #[.agg #[.bool sj, .slice Aj nj cj]] w' fun e w'' => e = .returned (.int .i64 (cmpI y 0)) ∧ T w'') :=
      hJ (fun w' h => (sign_any y sj Aj nj cj w' (PIo.new HRj_5.out h.2.2.2.2) (by omega)).mono (fun e w'' ⟨he, hb⟩ => ⟨he, K0.out _ (bt h.2.2.2.2 hb)⟩))
     obtain ⟨a', ha'⟩ : ∃ a, cmpI x 0 = a := ⟨_, rfl⟩
     obtain ⟨b', hb'⟩ : ∃ a, cmpI y 0 = a := ⟨_, rfl⟩
     rw [ha'] at HRES K1
     rw [hb'] at HRES K2
     clear ha' hb'
     have K3 : Hid (∀ w', Calls Tryz.prog 176 #[.int .i64 a', .int .i64 b'] w' fun e w'' => e = .returned (.int .i64 (cmpI a' b')) ∧ w' = w'') := hJ (fun w' => cmpi_any a' b' (cmpI a' b') w' (cmpI_cases a' b'))
     have bR := K0.out _ (Below.refl w5.heap.size w5).drew
     go_wp2_with fail
     go_region_held3 (fun w' => w'.cell? ⟨g1 + 1, 0, none⟩ = some (.bool sg) ∧ w'.cell? ⟨g1 + 1, 1, none⟩ = some (.slice Ag ng cg) ∧ w'.cell? ⟨g2 + 1, 0, none⟩ = some (.bool sj) ∧ w'.cell? ⟨g2 + 1, 1, none⟩ = some (.slice Aj nj cj) ∧ Below w5.heap.size w5 w') (first | assumption | exact bR | go_keep)
      (first | (go_at_call_of 98 (Value.agg #[.bool sg, .slice Ag ng cg]); refine (K1.out _ ?_).mono ?_; assumption; rintro e w7 ⟨rfl, hc7⟩) | (go_at_call_of 98 (Value.agg #[.bool sj, .slice Aj nj cj]); refine (K2.out _ ?_).mono ?_; assumption; rintro e w8 ⟨rfl, hc8⟩) | (go_at_call 176; refine (K3.out _).mono ?_; rintro e w9 ⟨rfl, rfl⟩))
     all_goals
      rename_i hlast
      have HLB := hJ hlast.2.2.2.2
      clear hlast
      go_wp2
      go_ret
      exact ⟨by rw [← HRES.out]; rfl, bt HB_5.out HLB.out⟩
    ·have hb0 : (b == 0) = false := by rw [← HBV.out]; exact cmpI_zero hy0
     have HNEW := hJ (show (0 < y ∧ 0 < x ∧ S.natAbs < lim ∧ y.natAbs < lim ∧ Q.natAbs < lim ∧ x.natAbs < lim) ∧ cmpI (S * x) (Q * y) = cmpI (p * s) (r * q) from ⟨⟨by have := HM2.out.1; omega, by have := HM1.out.1; have := HX0.out; omega, HL.out.2.2.2.2.2, HXY.out.2, HL.out.2.2.2.1, HXY.out.1⟩, by rw [Int.mul_comm S x, Int.mul_comm Q y]; exact HQZ.out⟩)
     clear hy0
     go_wp2_with fail
     obtain ⟨v0, hv0⟩ := nmz (World.drew w5)
     have HD0 := hJ (show Below w5.heap.size w5 v0 by rw [← hv0]; exact (Below.refl _ _).drew)
     have HX_0 := hJ (bt HB_5.out HD0.out)
     have RE_0 := hJ (PIo.new HRe_5.out HD0.out)
     have RJ_0 := hJ (PIo.new HRj_5.out HD0.out)
     have RB_0 := hJ (PIo.new HRb_5.out HD0.out)
     have RG_0 := hJ (PIo.new HRg_5.out HD0.out)
     have HP_a_0 := hJ (HPa_5.out.new HD0.out)
     have HP_b_0 := hJ (HPb_5.out.new HD0.out)
     have HP_d_0 := hJ (HPd_5.out.new HD0.out)
     have HP_e_0 := hJ (HPe_5.out.new HD0.out)
     have HP_g_0 := hJ (HPg_5.out.new HD0.out)
     have HP_j_0 := hJ (HPj_5.out.new HD0.out)
     refine wp_region_held_drew (S := (fun w' : World => w'.cell? ⟨(g1 + 1), 0, none⟩ = some (.bool sg) ∧ w'.cell? ⟨(g1 + 1), 1, none⟩ = some (.slice Ag ng cg) ∧ w'.cell? ⟨(g2 + 1), 0, none⟩ = some (.bool sj) ∧ w'.cell? ⟨(g2 + 1), 1, none⟩ = some (.slice Aj nj cj))) (by kernel_rfl) ?_ (fun hHeld => ?_)
     ·rw [hv0]
      exact ⟨HP_g_0.out.cells.1, HP_g_0.out.cells.2, HP_j_0.out.cells.1, HP_j_0.out.cells.2⟩
     rw [hv0] at hHeld ⊢
     clear hv0 HD0
     refine tq 1 ?_
     try simp only [PT]
     refine tq 3 ?_
     try simp only [PT]
     refine wpAnyH_ready (rs := [0, 2]) (by kernel_rfl) (by simp) ?_
     refine .cons rfl (fun K hK => ?_) ?_
     ·skip
      obtain ⟨z0, z1⟩ := HP_e_0.out.cells
      go_simp
      clear hHeld
      refine hK.out _ _ (⟨HP_g_0.out.cells.1, HP_g_0.out.cells.2, HP_j_0.out.cells.1, HP_j_0.out.cells.2⟩) (fun hHeld => ?_)
      clear hK K z0 z1
      try simp only [PT]
      refine wpAnyH_ready (rs := [2]) (by kernel_rfl) (by simp) ?_
      refine .cons rfl (fun K hK => ?_) .nil
      obtain ⟨z0, z1⟩ := HP_b_0.out.cells
      go_simp
      clear hHeld
      refine hK.out _ _ (⟨HP_g_0.out.cells.1, HP_g_0.out.cells.2, HP_j_0.out.cells.1, HP_j_0.out.cells.2⟩) (fun hHeld => ?_)
      clear hK K z0 z1
      try simp only [PT]
      refine wpAnyH_ready (rs := [4]) (by kernel_rfl) (by simp) ?_
      refine .cons rfl (fun K hK => ?_) .nil
      obtain ⟨z0, z1⟩ := HP_a_0.out.cells
      have y0 := HP_a_0.out.frozen 0
      have y1 := HP_a_0.out.frozen 1
      have z9 := HP_a_0.out.lt
      go_simp
      obtain ⟨v3, hV⟩ := nmz (World.setCell (World.setCell v0 ⟨h, 0, none⟩ (.bool se)) ⟨h, 1, none⟩ (.slice Ae ne ce))
      rw [hV]
      have HX_3 := hJ (show Below w.heap.size w v3 by rw [← hV]; exact below_box HX_0.out (by rw [HH.out]; omega) _ _)
      have RE_3 := hJ (show PI v3 se Ae ne ce (S) by rw [← hV]; exact PIo.box (RE_0.out) (HP_a_0.out) rfl rfl (.bool se) (.slice Ae ne ce))
      have RJ_3 := hJ (show PI v3 sj Aj nj cj (y) by rw [← hV]; exact PIo.box (RJ_0.out) (HP_a_0.out) rfl rfl (.bool se) (.slice Ae ne ce))
      have RB_3 := hJ (show PI v3 sb Ab nb cb (Q) by rw [← hV]; exact PIo.box (RB_0.out) (HP_a_0.out) rfl rfl (.bool se) (.slice Ae ne ce))
      have RG_3 := hJ (show PI v3 sg Ag ng cg (x) by rw [← hV]; exact PIo.box (RG_0.out) (HP_a_0.out) rfl rfl (.bool se) (.slice Ae ne ce))
      have HP_b_3 := hJ (show P2 33 v3 (h + 1) (.bool sb) (.slice Ab nb cb) by rw [← hV]; exact HP_b_0.out.far2 (show (h + 1) ≠ h from (by have := HN1.out; have := HN2.out; omega)) (.bool se) (.slice Ae ne ce))
      have HP_d_3 := hJ (show P2 33 v3 (h + 1 + 1) (.bool sd) (.slice Ad nd cd) by rw [← hV]; exact HP_d_0.out.far2 (show (h + 1 + 1) ≠ h from (by have := HN1.out; have := HN2.out; omega)) (.bool se) (.slice Ae ne ce))
      have HP_e_3 := hJ (show P2 33 v3 (h + 1 + 1 + 1) (.bool se) (.slice Ae ne ce) by rw [← hV]; exact HP_e_0.out.far2 (show (h + 1 + 1 + 1) ≠ h from (by have := HN1.out; have := HN2.out; omega)) (.bool se) (.slice Ae ne ce))
      have HP_g_3 := hJ (show P2 33 v3 (g1 + 1) (.bool sg) (.slice Ag ng cg) by rw [← hV]; exact HP_g_0.out.far2 (show (g1 + 1) ≠ h from (by have := HN1.out; have := HN2.out; omega)) (.bool se) (.slice Ae ne ce))
      have HP_j_3 := hJ (show P2 33 v3 (g2 + 1) (.bool sj) (.slice Aj nj cj) by rw [← hV]; exact HP_j_0.out.far2 (show (g2 + 1) ≠ h from (by have := HN1.out; have := HN2.out; omega)) (.bool se) (.slice Ae ne ce))
      have HP_a_3 := hJ (show P2 33 v3 h (.bool se) (.slice Ae ne ce) by rw [← hV]; exact HP_a_0.out.all (.bool se) (.slice Ae ne ce))
      clear hHeld
      refine hK.out _ _ (⟨HP_g_3.out.cells.1, HP_g_3.out.cells.2, HP_j_3.out.cells.1, HP_j_3.out.cells.2⟩) (fun hHeld => ?_)
      clear hK K hV z9 z0 z1 y0 y1 HX_0 RE_0 RJ_0 RB_0 RG_0 HP_b_0 HP_d_0 HP_e_0 HP_g_0 HP_j_0 HP_a_0
      try simp only [PT]
      refine wpAnyH_ready (rs := [5]) (by kernel_rfl) (by simp) ?_
      refine .cons rfl (fun K hK => ?_) .nil
      obtain ⟨z0, z1⟩ := HP_b_3.out.cells
      have y0 := HP_b_3.out.frozen 0
      have y1 := HP_b_3.out.frozen 1
      have z9 := HP_b_3.out.lt
      go_simp
      obtain ⟨v4, hV⟩ := nmz (World.setCell (World.setCell v3 ⟨(h + 1), 0, none⟩ (.bool sj)) ⟨(h + 1), 1, none⟩ (.slice Aj nj cj))
      rw [hV]
      have HX_4 := hJ (show Below w.heap.size w v4 by rw [← hV]; exact below_box HX_3.out (by rw [HH.out]; omega) _ _)
      have RE_4 := hJ (show PI v4 se Ae ne ce (S) by rw [← hV]; exact PIo.box (RE_3.out) (HP_b_3.out) rfl rfl (.bool sj) (.slice Aj nj cj))
      have RJ_4 := hJ (show PI v4 sj Aj nj cj (y) by rw [← hV]; exact PIo.box (RJ_3.out) (HP_b_3.out) rfl rfl (.bool sj) (.slice Aj nj cj))
      have RB_4 := hJ (show PI v4 sb Ab nb cb (Q) by rw [← hV]; exact PIo.box (RB_3.out) (HP_b_3.out) rfl rfl (.bool sj) (.slice Aj nj cj))
      have RG_4 := hJ (show PI v4 sg Ag ng cg (x) by rw [← hV]; exact PIo.box (RG_3.out) (HP_b_3.out) rfl rfl (.bool sj) (.slice Aj nj cj))
      have HP_a_4 := hJ (show P2 33 v4 h (.bool se) (.slice Ae ne ce) by rw [← hV]; exact HP_a_3.out.far2 (show h ≠ (h + 1) from (by have := HN1.out; have := HN2.out; omega)) (.bool sj) (.slice Aj nj cj))
      have HP_d_4 := hJ (show P2 33 v4 (h + 1 + 1) (.bool sd) (.slice Ad nd cd) by rw [← hV]; exact HP_d_3.out.far2 (show (h + 1 + 1) ≠ (h + 1) from (by have := HN1.out; have := HN2.out; omega)) (.bool sj) (.slice Aj nj cj))
      have HP_e_4 := hJ (show P2 33 v4 (h + 1 + 1 + 1) (.bool se) (.slice Ae ne ce) by rw [← hV]; exact HP_e_3.out.far2 (show (h + 1 + 1 + 1) ≠ (h + 1) from (by have := HN1.out; have := HN2.out; omega)) (.bool sj) (.slice Aj nj cj))
      have HP_g_4 := hJ (show P2 33 v4 (g1 + 1) (.bool sg) (.slice Ag ng cg) by rw [← hV]; exact HP_g_3.out.far2 (show (g1 + 1) ≠ (h + 1) from (by have := HN1.out; have := HN2.out; omega)) (.bool sj) (.slice Aj nj cj))
      have HP_j_4 := hJ (show P2 33 v4 (g2 + 1) (.bool sj) (.slice Aj nj cj) by rw [← hV]; exact HP_j_3.out.far2 (show (g2 + 1) ≠ (h + 1) from (by have := HN1.out; have := HN2.out; omega)) (.bool sj) (.slice Aj nj cj))
      have HP_b_4 := hJ (show P2 33 v4 (h + 1) (.bool sj) (.slice Aj nj cj) by rw [← hV]; exact HP_b_3.out.all (.bool sj) (.slice Aj nj cj))
      clear hHeld
      refine hK.out _ _ (⟨HP_g_4.out.cells.1, HP_g_4.out.cells.2, HP_j_4.out.cells.1, HP_j_4.out.cells.2⟩) (fun hHeld => ?_)
      clear hK K hV z9 z0 z1 y0 y1 HX_3 RE_3 RJ_3 RB_3 RG_3 HP_a_3 HP_d_3 HP_e_3 HP_g_3 HP_j_3 HP_b_3
      try simp only [PT]
      refine wpAnyH_ready (rs := [6]) (by kernel_rfl) (by simp) ?_
      refine .cons rfl (fun K hK => ?_) .nil
      obtain ⟨z0, z1⟩ := HP_d_4.out.cells
      have y0 := HP_d_4.out.frozen 0
      have y1 := HP_d_4.out.frozen 1
      have z9 := HP_d_4.out.lt
      go_simp
      obtain ⟨v5, hV⟩ := nmz (World.setCell (World.setCell v4 ⟨(h + 1 + 1), 0, none⟩ (.bool sb)) ⟨(h + 1 + 1), 1, none⟩ (.slice Ab nb cb))
      rw [hV]
      have HX_5 := hJ (show Below w.heap.size w v5 by rw [← hV]; exact below_box HX_4.out (by rw [HH.out]; omega) _ _)
      have RE_5 := hJ (show PI v5 se Ae ne ce (S) by rw [← hV]; exact PIo.box (RE_4.out) (HP_d_4.out) rfl rfl (.bool sb) (.slice Ab nb cb))
      have RJ_5 := hJ (show PI v5 sj Aj nj cj (y) by rw [← hV]; exact PIo.box (RJ_4.out) (HP_d_4.out) rfl rfl (.bool sb) (.slice Ab nb cb))
      have RB_5 := hJ (show PI v5 sb Ab nb cb (Q) by rw [← hV]; exact PIo.box (RB_4.out) (HP_d_4.out) rfl rfl (.bool sb) (.slice Ab nb cb))
      have RG_5 := hJ (show PI v5 sg Ag ng cg (x) by rw [← hV]; exact PIo.box (RG_4.out) (HP_d_4.out) rfl rfl (.bool sb) (.slice Ab nb cb))
      have HP_a_5 := hJ (show P2 33 v5 h (.bool se) (.slice Ae ne ce) by rw [← hV]; exact HP_a_4.out.far2 (show h ≠ (h + 1 + 1) from (by have := HN1.out; have := HN2.out; omega)) (.bool sb) (.slice Ab nb cb))
      have HP_b_5 := hJ (show P2 33 v5 (h + 1) (.bool sj) (.slice Aj nj cj) by rw [← hV]; exact HP_b_4.out.far2 (show (h + 1) ≠ (h + 1 + 1) from (by have := HN1.out; have := HN2.out; omega)) (.bool sb) (.slice Ab nb cb))
      have HP_e_5 := hJ (show P2 33 v5 (h + 1 + 1 + 1) (.bool se) (.slice Ae ne ce) by rw [← hV]; exact HP_e_4.out.far2 (show (h + 1 + 1 + 1) ≠ (h + 1 + 1) from (by have := HN1.out; have := HN2.out; omega)) (.bool sb) (.slice Ab nb cb))
      have HP_g_5 := hJ (show P2 33 v5 (g1 + 1) (.bool sg) (.slice Ag ng cg) by rw [← hV]; exact HP_g_4.out.far2 (show (g1 + 1) ≠ (h + 1 + 1) from (by have := HN1.out; have := HN2.out; omega)) (.bool sb) (.slice Ab nb cb))
      have HP_j_5 := hJ (show P2 33 v5 (g2 + 1) (.bool sj) (.slice Aj nj cj) by rw [← hV]; exact HP_j_4.out.far2 (show (g2 + 1) ≠ (h + 1 + 1) from (by have := HN1.out; have := HN2.out; omega)) (.bool sb) (.slice Ab nb cb))
      have HP_d_5 := hJ (show P2 33 v5 (h + 1 + 1) (.bool sb) (.slice Ab nb cb) by rw [← hV]; exact HP_d_4.out.all (.bool sb) (.slice Ab nb cb))
      clear hHeld
      refine hK.out _ _ (⟨HP_g_5.out.cells.1, HP_g_5.out.cells.2, HP_j_5.out.cells.1, HP_j_5.out.cells.2⟩) (fun hHeld => ?_)
      clear hK K hV z9 z0 z1 y0 y1 HX_4 RE_4 RJ_4 RB_4 RG_4 HP_a_4 HP_b_4 HP_e_4 HP_g_4 HP_j_4 HP_d_4
      try simp only [PT]
      refine wpAnyH_ready (rs := [7]) (by kernel_rfl) (by simp) ?_
      refine .cons rfl (fun K hK => ?_) .nil
      obtain ⟨z0, z1⟩ := HP_e_5.out.cells
      have y0 := HP_e_5.out.frozen 0
      have y1 := HP_e_5.out.frozen 1
      have z9 := HP_e_5.out.lt
      go_simp
      obtain ⟨v6, hV⟩ := nmz (World.setCell (World.setCell v5 ⟨(h + 1 + 1 + 1), 0, none⟩ (.bool sg)) ⟨(h + 1 + 1 + 1), 1, none⟩ (.slice Ag ng cg))
      rw [hV]
      have HX_6 := hJ (show Below w.heap.size w v6 by rw [← hV]; exact below_box HX_5.out (by rw [HH.out]; omega) _ _)
      have RE_6 := hJ (show PI v6 se Ae ne ce (S) by rw [← hV]; exact PIo.box (RE_5.out) (HP_e_5.out) rfl rfl (.bool sg) (.slice Ag ng cg))
      have RJ_6 := hJ (show PI v6 sj Aj nj cj (y) by rw [← hV]; exact PIo.box (RJ_5.out) (HP_e_5.out) rfl rfl (.bool sg) (.slice Ag ng cg))
      have RB_6 := hJ (show PI v6 sb Ab nb cb (Q) by rw [← hV]; exact PIo.box (RB_5.out) (HP_e_5.out) rfl rfl (.bool sg) (.slice Ag ng cg))
      have RG_6 := hJ (show PI v6 sg Ag ng cg (x) by rw [← hV]; exact PIo.box (RG_5.out) (HP_e_5.out) rfl rfl (.bool sg) (.slice Ag ng cg))
      have HP_a_6 := hJ (show P2 33 v6 h (.bool se) (.slice Ae ne ce) by rw [← hV]; exact HP_a_5.out.far2 (show h ≠ (h + 1 + 1 + 1) from (by have := HN1.out; have := HN2.out; omega)) (.bool sg) (.slice Ag ng cg))
      have HP_b_6 := hJ (show P2 33 v6 (h + 1) (.bool sj) (.slice Aj nj cj) by rw [← hV]; exact HP_b_5.out.far2 (show (h + 1) ≠ (h + 1 + 1 + 1) from (by have := HN1.out; have := HN2.out; omega)) (.bool sg) (.slice Ag ng cg))
      have HP_d_6 := hJ (show P2 33 v6 (h + 1 + 1) (.bool sb) (.slice Ab nb cb) by rw [← hV]; exact HP_d_5.out.far2 (show (h + 1 + 1) ≠ (h + 1 + 1 + 1) from (by have := HN1.out; have := HN2.out; omega)) (.bool sg) (.slice Ag ng cg))
      have HP_g_6 := hJ (show P2 33 v6 (g1 + 1) (.bool sg) (.slice Ag ng cg) by rw [← hV]; exact HP_g_5.out.far2 (show (g1 + 1) ≠ (h + 1 + 1 + 1) from (by have := HN1.out; have := HN2.out; omega)) (.bool sg) (.slice Ag ng cg))
      have HP_j_6 := hJ (show P2 33 v6 (g2 + 1) (.bool sj) (.slice Aj nj cj) by rw [← hV]; exact HP_j_5.out.far2 (show (g2 + 1) ≠ (h + 1 + 1 + 1) from (by have := HN1.out; have := HN2.out; omega)) (.bool sg) (.slice Ag ng cg))
      have HP_e_6 := hJ (show P2 33 v6 (h + 1 + 1 + 1) (.bool sg) (.slice Ag ng cg) by rw [← hV]; exact HP_e_5.out.all (.bool sg) (.slice Ag ng cg))
      clear hHeld
      refine hK.out _ _ (⟨HP_g_6.out.cells.1, HP_g_6.out.cells.2, HP_j_6.out.cells.1, HP_j_6.out.cells.2⟩) (fun hHeld => ?_)
      clear hK K hV z9 z0 z1 y0 y1 HX_5 RE_5 RJ_5 RB_5 RG_5 HP_a_5 HP_b_5 HP_d_5 HP_g_5 HP_j_5 HP_e_5
      try simp only [PT]
      refine wpAnyH_done (by kernel_rfl) ?_ _
      clear hHeld
      go_wp2
      go_roundg (x.natAbs + y.natAbs)
      case measure => have := HM1.out; have := HM2.out; have := HG.out; omega
      case rel => exact ⟨S, y, Q, x, se, sj, sb, sg, Ae, Aj, Ab, Ag, ne, nj, nb, ng, ce, cj, cb, cg, by omega, HP_a_6.out, HP_b_6.out, HP_d_6.out, HP_e_6.out, RE_6.out, RJ_6.out, RB_6.out, RG_6.out, HNEW.out.1, HNEW.out.2, HX_6.out⟩
     refine .cons rfl (fun K hK => ?_) .nil
     ·skip
      obtain ⟨z0, z1⟩ := HP_b_0.out.cells
      go_simp
      clear hHeld
      refine hK.out _ _ (⟨HP_g_0.out.cells.1, HP_g_0.out.cells.2, HP_j_0.out.cells.1, HP_j_0.out.cells.2⟩) (fun hHeld => ?_)
      clear hK K z0 z1
      try simp only [PT]
      refine wpAnyH_ready (rs := [0]) (by kernel_rfl) (by simp) ?_
      refine .cons rfl (fun K hK => ?_) .nil
      obtain ⟨z0, z1⟩ := HP_e_0.out.cells
      go_simp
      clear hHeld
      refine hK.out _ _ (⟨HP_g_0.out.cells.1, HP_g_0.out.cells.2, HP_j_0.out.cells.1, HP_j_0.out.cells.2⟩) (fun hHeld => ?_)
      clear hK K z0 z1
      try simp only [PT]
      refine wpAnyH_ready (rs := [4]) (by kernel_rfl) (by simp) ?_
      refine .cons rfl (fun K hK => ?_) .nil
      obtain ⟨z0, z1⟩ := HP_a_0.out.cells
      have y0 := HP_a_0.out.frozen 0
      have y1 := HP_a_0.out.frozen 1
      have z9 := HP_a_0.out.lt
      go_simp
      obtain ⟨v9, hV⟩ := nmz (World.setCell (World.setCell v0 ⟨h, 0, none⟩ (.bool se)) ⟨h, 1, none⟩ (.slice Ae ne ce))
      rw [hV]
      have HX_9 := hJ (show Below w.heap.size w v9 by rw [← hV]; exact below_box HX_0.out (by rw [HH.out]; omega) _ _)
      have RE_9 := hJ (show PI v9 se Ae ne ce (S) by rw [← hV]; exact PIo.box (RE_0.out) (HP_a_0.out) rfl rfl (.bool se) (.slice Ae ne ce))
      have RJ_9 := hJ (show PI v9 sj Aj nj cj (y) by rw [← hV]; exact PIo.box (RJ_0.out) (HP_a_0.out) rfl rfl (.bool se) (.slice Ae ne ce))
      have RB_9 := hJ (show PI v9 sb Ab nb cb (Q) by rw [← hV]; exact PIo.box (RB_0.out) (HP_a_0.out) rfl rfl (.bool se) (.slice Ae ne ce))
      have RG_9 := hJ (show PI v9 sg Ag ng cg (x) by rw [← hV]; exact PIo.box (RG_0.out) (HP_a_0.out) rfl rfl (.bool se) (.slice Ae ne ce))
      have HP_b_9 := hJ (show P2 33 v9 (h + 1) (.bool sb) (.slice Ab nb cb) by rw [← hV]; exact HP_b_0.out.far2 (show (h + 1) ≠ h from (by have := HN1.out; have := HN2.out; omega)) (.bool se) (.slice Ae ne ce))
      have HP_d_9 := hJ (show P2 33 v9 (h + 1 + 1) (.bool sd) (.slice Ad nd cd) by rw [← hV]; exact HP_d_0.out.far2 (show (h + 1 + 1) ≠ h from (by have := HN1.out; have := HN2.out; omega)) (.bool se) (.slice Ae ne ce))
      have HP_e_9 := hJ (show P2 33 v9 (h + 1 + 1 + 1) (.bool se) (.slice Ae ne ce) by rw [← hV]; exact HP_e_0.out.far2 (show (h + 1 + 1 + 1) ≠ h from (by have := HN1.out; have := HN2.out; omega)) (.bool se) (.slice Ae ne ce))
      have HP_g_9 := hJ (show P2 33 v9 (g1 + 1) (.bool sg) (.slice Ag ng cg) by rw [← hV]; exact HP_g_0.out.far2 (show (g1 + 1) ≠ h from (by have := HN1.out; have := HN2.out; omega)) (.bool se) (.slice Ae ne ce))
      have HP_j_9 := hJ (show P2 33 v9 (g2 + 1) (.bool sj) (.slice Aj nj cj) by rw [← hV]; exact HP_j_0.out.far2 (show (g2 + 1) ≠ h from (by have := HN1.out; have := HN2.out; omega)) (.bool se) (.slice Ae ne ce))
      have HP_a_9 := hJ (show P2 33 v9 h (.bool se) (.slice Ae ne ce) by rw [← hV]; exact HP_a_0.out.all (.bool se) (.slice Ae ne ce))
      clear hHeld
      refine hK.out _ _ (⟨HP_g_9.out.cells.1, HP_g_9.out.cells.2, HP_j_9.out.cells.1, HP_j_9.out.cells.2⟩) (fun hHeld => ?_)
      clear hK K hV z9 z0 z1 y0 y1 HX_0 RE_0 RJ_0 RB_0 RG_0 HP_b_0 HP_d_0 HP_e_0 HP_g_0 HP_j_0 HP_a_0
      try simp only [PT]
      refine wpAnyH_ready (rs := [5]) (by kernel_rfl) (by simp) ?_
      refine .cons rfl (fun K hK => ?_) .nil
      obtain ⟨z0, z1⟩ := HP_b_9.out.cells
      have y0 := HP_b_9.out.frozen 0
      have y1 := HP_b_9.out.frozen 1
      have z9 := HP_b_9.out.lt
      go_simp
      obtain ⟨v10, hV⟩ := nmz (World.setCell (World.setCell v9 ⟨(h + 1), 0, none⟩ (.bool sj)) ⟨(h + 1), 1, none⟩ (.slice Aj nj cj))
      rw [hV]
      have HX_10 := hJ (show Below w.heap.size w v10 by rw [← hV]; exact below_box HX_9.out (by rw [HH.out]; omega) _ _)
      have RE_10 := hJ (show PI v10 se Ae ne ce (S) by rw [← hV]; exact PIo.box (RE_9.out) (HP_b_9.out) rfl rfl (.bool sj) (.slice Aj nj cj))
      have RJ_10 := hJ (show PI v10 sj Aj nj cj (y) by rw [← hV]; exact PIo.box (RJ_9.out) (HP_b_9.out) rfl rfl (.bool sj) (.slice Aj nj cj))
      have RB_10 := hJ (show PI v10 sb Ab nb cb (Q) by rw [← hV]; exact PIo.box (RB_9.out) (HP_b_9.out) rfl rfl (.bool sj) (.slice Aj nj cj))
      have RG_10 := hJ (show PI v10 sg Ag ng cg (x) by rw [← hV]; exact PIo.box (RG_9.out) (HP_b_9.out) rfl rfl (.bool sj) (.slice Aj nj cj))
      have HP_a_10 := hJ (show P2 33 v10 h (.bool se) (.slice Ae ne ce) by rw [← hV]; exact HP_a_9.out.far2 (show h ≠ (h + 1) from (by have := HN1.out; have := HN2.out; omega)) (.bool sj) (.slice Aj nj cj))
      have HP_d_10 := hJ (show P2 33 v10 (h + 1 + 1) (.bool sd) (.slice Ad nd cd) by rw [← hV]; exact HP_d_9.out.far2 (show (h + 1 + 1) ≠ (h + 1) from (by have := HN1.out; have := HN2.out; omega)) (.bool sj) (.slice Aj nj cj))
      have HP_e_10 := hJ (show P2 33 v10 (h + 1 + 1 + 1) (.bool se) (.slice Ae ne ce) by rw [← hV]; exact HP_e_9.out.far2 (show (h + 1 + 1 + 1) ≠ (h + 1) from (by have := HN1.out; have := HN2.out; omega)) (.bool sj) (.slice Aj nj cj))
      have HP_g_10 := hJ (show P2 33 v10 (g1 + 1) (.bool sg) (.slice Ag ng cg) by rw [← hV]; exact HP_g_9.out.far2 (show (g1 + 1) ≠ (h + 1) from (by have := HN1.out; have := HN2.out; omega)) (.bool sj) (.slice Aj nj cj))
      have HP_j_10 := hJ (show P2 33 v10 (g2 + 1) (.bool sj) (.slice Aj nj cj) by rw [← hV]; exact HP_j_9.out.far2 (show (g2 + 1) ≠ (h + 1) from (by have := HN1.out; have := HN2.out; omega)) (.bool sj) (.slice Aj nj cj))
      have HP_b_10 := hJ (show P2 33 v10 (h + 1) (.bool sj) (.slice Aj nj cj) by rw [← hV]; exact HP_b_9.out.all (.bool sj) (.slice Aj nj cj))
      clear hHeld
      refine hK.out _ _ (⟨HP_g_10.out.cells.1, HP_g_10.out.cells.2, HP_j_10.out.cells.1, HP_j_10.out.cells.2⟩) (fun hHeld => ?_)
      clear hK K hV z9 z0 z1 y0 y1 HX_9 RE_9 RJ_9 RB_9 RG_9 HP_a_9 HP_d_9 HP_e_9 HP_g_9 HP_j_9 HP_b_9
      try simp only [PT]
      refine wpAnyH_ready (rs := [6]) (by kernel_rfl) (by simp) ?_
      refine .cons rfl (fun K hK => ?_) .nil
      obtain ⟨z0, z1⟩ := HP_d_10.out.cells
      have y0 := HP_d_10.out.frozen 0
      have y1 := HP_d_10.out.frozen 1
      have z9 := HP_d_10.out.lt
      go_simp
      obtain ⟨v11, hV⟩ := nmz (World.setCell (World.setCell v10 ⟨(h + 1 + 1), 0, none⟩ (.bool sb)) ⟨(h + 1 + 1), 1, none⟩ (.slice Ab nb cb))
      rw [hV]
      have HX_11 := hJ (show Below w.heap.size w v11 by rw [← hV]; exact below_box HX_10.out (by rw [HH.out]; omega) _ _)
      have RE_11 := hJ (show PI v11 se Ae ne ce (S) by rw [← hV]; exact PIo.box (RE_10.out) (HP_d_10.out) rfl rfl (.bool sb) (.slice Ab nb cb))
      have RJ_11 := hJ (show PI v11 sj Aj nj cj (y) by rw [← hV]; exact PIo.box (RJ_10.out) (HP_d_10.out) rfl rfl (.bool sb) (.slice Ab nb cb))
      have RB_11 := hJ (show PI v11 sb Ab nb cb (Q) by rw [← hV]; exact PIo.box (RB_10.out) (HP_d_10.out) rfl rfl (.bool sb) (.slice Ab nb cb))
      have RG_11 := hJ (show PI v11 sg Ag ng cg (x) by rw [← hV]; exact PIo.box (RG_10.out) (HP_d_10.out) rfl rfl (.bool sb) (.slice Ab nb cb))
      have HP_a_11 := hJ (show P2 33 v11 h (.bool se) (.slice Ae ne ce) by rw [← hV]; exact HP_a_10.out.far2 (show h ≠ (h + 1 + 1) from (by have := HN1.out; have := HN2.out; omega)) (.bool sb) (.slice Ab nb cb))
      have HP_b_11 := hJ (show P2 33 v11 (h + 1) (.bool sj) (.slice Aj nj cj) by rw [← hV]; exact HP_b_10.out.far2 (show (h + 1) ≠ (h + 1 + 1) from (by have := HN1.out; have := HN2.out; omega)) (.bool sb) (.slice Ab nb cb))
      have HP_e_11 := hJ (show P2 33 v11 (h + 1 + 1 + 1) (.bool se) (.slice Ae ne ce) by rw [← hV]; exact HP_e_10.out.far2 (show (h + 1 + 1 + 1) ≠ (h + 1 + 1) from (by have := HN1.out; have := HN2.out; omega)) (.bool sb) (.slice Ab nb cb))
      have HP_g_11 := hJ (show P2 33 v11 (g1 + 1) (.bool sg) (.slice Ag ng cg) by rw [← hV]; exact HP_g_10.out.far2 (show (g1 + 1) ≠ (h + 1 + 1) from (by have := HN1.out; have := HN2.out; omega)) (.bool sb) (.slice Ab nb cb))
      have HP_j_11 := hJ (show P2 33 v11 (g2 + 1) (.bool sj) (.slice Aj nj cj) by rw [← hV]; exact HP_j_10.out.far2 (show (g2 + 1) ≠ (h + 1 + 1) from (by have := HN1.out; have := HN2.out; omega)) (.bool sb) (.slice Ab nb cb))
      have HP_d_11 := hJ (show P2 33 v11 (h + 1 + 1) (.bool sb) (.slice Ab nb cb) by rw [← hV]; exact HP_d_10.out.all (.bool sb) (.slice Ab nb cb))
      clear hHeld
      refine hK.out _ _ (⟨HP_g_11.out.cells.1, HP_g_11.out.cells.2, HP_j_11.out.cells.1, HP_j_11.out.cells.2⟩) (fun hHeld => ?_)
      clear hK K hV z9 z0 z1 y0 y1 HX_10 RE_10 RJ_10 RB_10 RG_10 HP_a_10 HP_b_10 HP_e_10 HP_g_10 HP_j_10 HP_d_10
      try simp only [PT]
      refine wpAnyH_ready (rs := [7]) (by kernel_rfl) (by simp) ?_
      refine .cons rfl (fun K hK => ?_) .nil
      obtain ⟨z0, z1⟩ := HP_e_11.out.cells
      have y0 := HP_e_11.out.frozen 0
      have y1 := HP_e_11.out.frozen 1
      have z9 := HP_e_11.out.lt
      go_simp
      obtain ⟨v12, hV⟩ := nmz (World.setCell (World.setCell v11 ⟨(h + 1 + 1 + 1), 0, none⟩ (.bool sg)) ⟨(h + 1 + 1 + 1), 1, none⟩ (.slice Ag ng cg))
      rw [hV]
      have HX_12 := hJ (show Below w.heap.size w v12 by rw [← hV]; exact below_box HX_11.out (by rw [HH.out]; omega) _ _)
      have RE_12 := hJ (show PI v12 se Ae ne ce (S) by rw [← hV]; exact PIo.box (RE_11.out) (HP_e_11.out) rfl rfl (.bool sg) (.slice Ag ng cg))
      have RJ_12 := hJ (show PI v12 sj Aj nj cj (y) by rw [← hV]; exact PIo.box (RJ_11.out) (HP_e_11.out) rfl rfl (.bool sg) (.slice Ag ng cg))
      have RB_12 := hJ (show PI v12 sb Ab nb cb (Q) by rw [← hV]; exact PIo.box (RB_11.out) (HP_e_11.out) rfl rfl (.bool sg) (.slice Ag ng cg))
      have RG_12 := hJ (show PI v12 sg Ag ng cg (x) by rw [← hV]; exact PIo.box (RG_11.out) (HP_e_11.out) rfl rfl (.bool sg) (.slice Ag ng cg))
      have HP_a_12 := hJ (show P2 33 v12 h (.bool se) (.slice Ae ne ce) by rw [← hV]; exact HP_a_11.out.far2 (show h ≠ (h + 1 + 1 + 1) from (by have := HN1.out; have := HN2.out; omega)) (.bool sg) (.slice Ag ng cg))
      have HP_b_12 := hJ (show P2 33 v12 (h + 1) (.bool sj) (.slice Aj nj cj) by rw [← hV]; exact HP_b_11.out.far2 (show (h + 1) ≠ (h + 1 + 1 + 1) from (by have := HN1.out; have := HN2.out; omega)) (.bool sg) (.slice Ag ng cg))
      have HP_d_12 := hJ (show P2 33 v12 (h + 1 + 1) (.bool sb) (.slice Ab nb cb) by rw [← hV]; exact HP_d_11.out.far2 (show (h + 1 + 1) ≠ (h + 1 + 1 + 1) from (by have := HN1.out; have := HN2.out; omega)) (.bool sg) (.slice Ag ng cg))
      have HP_g_12 := hJ (show P2 33 v12 (g1 + 1) (.bool sg) (.slice Ag ng cg) by rw [← hV]; exact HP_g_11.out.far2 (show (g1 + 1) ≠ (h + 1 + 1 + 1) from (by have := HN1.out; have := HN2.out; omega)) (.bool sg) (.slice Ag ng cg))
      have HP_j_12 := hJ (show P2 33 v12 (g2 + 1) (.bool sj) (.slice Aj nj cj) by rw [← hV]; exact HP_j_11.out.far2 (show (g2 + 1) ≠ (h + 1 + 1 + 1) from (by have := HN1.out; have := HN2.out; omega)) (.bool sg) (.slice Ag ng cg))
      have HP_e_12 := hJ (show P2 33 v12 (h + 1 + 1 + 1) (.bool sg) (.slice Ag ng cg) by rw [← hV]; exact HP_e_11.out.all (.bool sg) (.slice Ag ng cg))
      clear hHeld
      refine hK.out _ _ (⟨HP_g_12.out.cells.1, HP_g_12.out.cells.2, HP_j_12.out.cells.1, HP_j_12.out.cells.2⟩) (fun hHeld => ?_)
      clear hK K hV z9 z0 z1 y0 y1 HX_11 RE_11 RJ_11 RB_11 RG_11 HP_a_11 HP_b_11 HP_d_11 HP_g_11 HP_j_11 HP_e_11
      try simp only [PT]
      refine wpAnyH_done (by kernel_rfl) ?_ _
      clear hHeld
      go_wp2
      go_roundg (x.natAbs + y.natAbs)
      case measure => have := HM1.out; have := HM2.out; have := HG.out; omega
      case rel => exact ⟨S, y, Q, x, se, sj, sb, sg, Ae, Aj, Ab, Ag, ne, nj, nb, ng, ce, cj, cb, cg, by omega, HP_a_12.out, HP_b_12.out, HP_d_12.out, HP_e_12.out, RE_12.out, RJ_12.out, RB_12.out, RG_12.out, HNEW.out.1, HNEW.out.2, HX_12.out⟩
  ·have HQZ := hJ (HQN.out hu)
   have hub : (u == 0) = false := by simp [hu]
   clear hu HQE HQN
   go_wp2
   go_ret
   exact ⟨by rw [← HQZ.out]; rfl, HB_3.out⟩
end Go.Proofs.YtbhnaffbgggabaaGreat
