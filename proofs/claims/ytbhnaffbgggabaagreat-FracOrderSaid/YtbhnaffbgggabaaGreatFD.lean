/- Contracts of the program's fractions: Make, Of. Conditions: as each statement has them. -/
import Derived.Test.YtbhnaffbgggabaaGreatFC
namespace Go.Proofs.YtbhnaffbgggabaaGreat
open Go.RowKit
attribute [local go_sem ↓] Go.wp_at_zero Go.wp_at_succ
theorem PF.box4 {w : World} {s s' : Bool} {A A' : Option Addr} {n c n' c' : Nat} {p q : Int} {t : TypeId} {B : Nat} {b0 b1 : Bool} {A0 A1 : Option Addr} {n0 c0 n1 c1 : Nat} (h : PF w s A n c s' A' n' c' p q) (hp : P4 t w B (.bool b0) (.slice A0 n0 c0) (.bool b1) (.slice A1 n1 c1)) (u0 u1 u2 u3 : Value) : PF ((((w.setCell ⟨B, 0, none⟩ u0).setCell ⟨B, 1, none⟩ u1).setCell ⟨B, 2, none⟩ u2).setCell ⟨B, 3, none⟩ u3) s A n c s' A' n' c' p q := ⟨PIo.box4 h.1 hp rfl rfl rfl rfl u0 u1 u2 u3, PIo.box4 h.2 hp rfl rfl rfl rfl u0 u1 u2 u3⟩
/-- The divisor, with the denominator's sign. -/
def mkD (p q : Int) : Int := if q < 0 then -((Nat.gcd p.natAbs q.natAbs : Nat) : Int) else ((Nat.gcd p.natAbs q.natAbs : Nat) : Int)
def mkP (p q : Int) : Int := if q = 0 then 0 else p / mkD p q
def mkQ (p q : Int) : Int := if q = 0 then 1 else q / mkD p q
def mkC (q : Int) : Int := if q = 0 then 1 else 0
theorem mk_zero (p : Int) : mkP p 0 = 0 ∧ mkQ p 0 = 1 ∧ mkC 0 = 1 := ⟨rfl, rfl, rfl⟩
theorem mk_gcd {p q : Int} (hq : q ≠ 0) (_ : p.natAbs < lim) (hl : q.natAbs < lim) : ((Nat.gcd p.natAbs q.natAbs : Nat) : Int) ≠ 0 ∧ 0 < ((Nat.gcd p.natAbs q.natAbs : Nat) : Int) ∧ ((Nat.gcd p.natAbs q.natAbs : Nat) : Int).natAbs < lim ∧ True := by
 have h0 : 0 < q.natAbs := by omega
 have h1 := Nat.gcd_pos_of_pos_right p.natAbs h0
 have h2 := Nat.gcd_le_right p.natAbs h0
 refine ⟨by omega, by omega, ?_, trivial⟩
 rw [Int.natAbs_natCast]
 omega
theorem mkD_abs (p q : Int) : (mkD p q).natAbs = Nat.gcd p.natAbs q.natAbs := by
 unfold mkD
 split <;> simp
theorem mkD_ne {p q : Int} (hq : q ≠ 0) : mkD p q ≠ 0 := by
 have h1 := Nat.gcd_pos_of_pos_right p.natAbs (show 0 < q.natAbs by omega)
 have := mkD_abs p q
 intro e
 rw [e] at this
 simp at this
 omega
theorem mkD_lim {p q : Int} (hq : q ≠ 0) (_ : p.natAbs < lim) (hl : q.natAbs < lim) : (mkD p q).natAbs < lim := by
 rw [mkD_abs]
 have h2 := Nat.gcd_le_right p.natAbs (show 0 < q.natAbs by omega)
 omega
theorem mk_lim {p q : Int} (hq : q ≠ 0) (hp : p.natAbs < lim) (hl : q.natAbs < lim) : (mkP p q).natAbs < lim ∧ (mkQ p q).natAbs < lim := by
 rw [mkP, mkQ, if_neg hq, if_neg hq]
 exact ⟨Nat.lt_of_le_of_lt (Int.natAbs_ediv_le_natAbs _ _) hp, Nat.lt_of_le_of_lt (Int.natAbs_ediv_le_natAbs _ _) hl⟩
theorem cmp_cases (q : Int) : (q < 0 ∧ cmpI q 0 < 0) ∨ (¬ q < 0 ∧ ¬ cmpI q 0 < 0) := by
 by_cases h : q < 0
 ·exact .inl ⟨h, by rw [cmpI_less h]; decide⟩
 ·refine .inr ⟨h, ?_⟩
  have := cmpI_ge (a := q) (by omega)
  omega
set_option maxRecDepth 100000 in
set_option maxHeartbeats 6400000 in
theorem fmake_any (p q : Int) (s s' : Bool) (A A' : Option Addr) (n c n' c' : Nat) (w : World) (hx : PI w s A n c p) (hy : PI w s' A' n' c' q) (hlp : p.natAbs < lim) (hlq : q.natAbs < lim) :
  Calls Tryz.prog 22 #[.agg #[.bool s, .slice A n c], .agg #[.bool s', .slice A' n' c']] w (RetFE (mkP p q) (mkQ p q) (mkC q) w) := by
 have HQ00 := hJ hlq
 have HP00 := hJ hlp
 obtain ⟨W, hW⟩ : ∃ W, ((w.alloc (.cells #[.bool s, .slice A n c] 33)).alloc (.cells #[.bool s', .slice A' n' c'] 33)).alloc (.cells #[.bool false, .slice none 0 0, .bool false, .slice none 0 0] 35) = W := ⟨_, rfl⟩
 have HK := hJ (show Below w.heap.size w W by rw [← hW]; exact W224_k _ _ _ _ _ _ _ _ _ _ _)
 have HA := hJ (show P2 33 W w.heap.size (.bool s) (.slice A n c) by rw [← hW]; exact W224_a _ _ _ _ _ _ _ _ _ _ _)
 have HB := hJ (show P2 33 W (w.heap.size + 1) (.bool s') (.slice A' n' c') by rw [← hW]; exact W224_b _ _ _ _ _ _ _ _ _ _ _)
 have HZ := hJ (show P4 35 W (w.heap.size + 1 + 1) (.bool false) (.slice none 0 0) (.bool false) (.slice none 0 0) by rw [← hW]; exact W224_z _ _ _ _ _ _ _ _ _ _ _)
 have HX := hJ (PIo.new hx HK.out)
 have HY := hJ (PIo.new hy HK.out)
 have hn := plim hx hlp
 have hn' := plim hy hlq
 obtain ⟨h, hh⟩ : ∃ h, w.heap.size = h := ⟨_, rfl⟩
 have HH := hJ hh
 rw [hh] at HA HB HZ
 clear hx hy hlp hlq
 obtain ⟨b0, b1⟩ := HB.out.cells
 go_enter Tryz.func22, Tryz.ntmps22
 go_wp2_with fail
 clear hW hh
 refine (sign_any q s' A' n' c' W HY.out (by omega)).mono ?_
 by_cases hq0 : q = 0
 ·rw [hq0, cmpI_zz]
  rintro e w1 ⟨rfl, hb1⟩
  have HB1 := hJ (bt HK.out hb1)
  have HZ1 := hJ (HZ.out.new hb1)
  have HMV := hJ (mk_zero p)
  clear hb1 b0 b1
  obtain ⟨z0, z1, z2, z3⟩ := HZ1.out.cells
  have f0 := HZ1.out.frozen 0
  have f1 := HZ1.out.frozen 1
  have f2 := HZ1.out.frozen 2
  have f3 := HZ1.out.frozen 3
  go_wp2
  exact bodyPost_ret (results_cell1 rfl _ _ _ _ _ _ _ rfl (HZ1.out.all (.bool false) (.slice none 0 0) (.bool false) (.slice none 0 0)) Tryz.underlying35 rfl F_size) rfl (by rw [hq0, HMV.out.1, HMV.out.2.1, HMV.out.2.2]; exact RetFE.stored (p := 0) (q := 1) ⟨PI.zero w1, PI.zero w1⟩ HZ1.out HB1.out (by rw [HH.out]; omega) _ _ _ _)
 have HC := hJ (cmpI_zero (y := q) hq0)
 have HQ0 := hJ hq0
 clear hq0
 obtain ⟨u, hu⟩ : ∃ u, cmpI q 0 = u := ⟨_, rfl⟩
 have HU := hJ hu
 rw [hu] at HC ⊢
 have hc := HC.out
 rintro e w1 ⟨rfl, hb1⟩
 have HB1 := hJ (bt HK.out hb1)
 have HA1 := hJ (HA.out.new hb1)
 have HBB1 := hJ (HB.out.new hb1)
 have HZ1 := hJ (HZ.out.new hb1)
 have HX1 := hJ (PIo.new HX.out hb1)
 have HY1 := hJ (PIo.new HY.out hb1)
 clear hb1 b0 b1 hu HA HB HZ HX HY HK HC
 obtain ⟨a0, a1⟩ := HA1.out.cells
 obtain ⟨b0, b1⟩ := HBB1.out.cells
 go_wp2_with fail
 clear hc
 refine (fcommon_any p q s s' A A' n c n' c' w1 HX1.out HY1.out (by omega) (by omega)).mono ?_
 obtain ⟨G, hG⟩ : ∃ G, ((Nat.gcd p.natAbs q.natAbs : Nat) : Int) = G := ⟨_, rfl⟩
 have HGV := hJ hG
 rw [hG]
 clear hG
 rintro e w2 ⟨s2, A2, n2, c2, rfl, hr2, hb2⟩
 obtain ⟨x2, hx2⟩ := nmz (w2.alloc (.cells #[.bool s2, .slice A2 n2 c2] 33))
 have HB2 := hJ (show Below w1.heap.size w1 x2 by rw [← hx2]; exact hb2.alloc hb2.size _)
 have HD2 := hJ (show P2 33 x2 w2.heap.size (.bool s2) (.slice A2 n2 c2) by rw [← hx2]; exact P2.lit _ _ _ _)
 have HR2 := hJ (show PI x2 s2 A2 n2 c2 G by rw [← hx2]; exact PIo.new hr2 ((Below.refl _ _).alloc (Nat.le_refl _) _))
 have HGL := hJ (mk_gcd (p := p) HQ0.out HP00.out HQ00.out)
 rw [HGV.out] at HGL
 obtain ⟨gd, hgd⟩ : ∃ g, w2.heap.size = g := ⟨_, rfl⟩
 have HGD := hJ (show w.heap.size ≤ gd ∧ gd ≠ h + 1 + 1 by
  have h1 := HZ1.out.lt
  have h2 := hb2.size
  have h3 := HB1.out.size
  rw [← hgd]
  omega)
 rw [hgd] at HD2
 have HGE := hJ (show h + 1 + 1 < gd by
  have h1 := HZ1.out.lt
  have h2 := hb2.size
  rw [← hgd]
  omega)
 have HA2 := hJ (HA1.out.new HB2.out)
 have HBB2 := hJ (HBB1.out.new HB2.out)
 have HZ2 := hJ (HZ1.out.new HB2.out)
 have HX2 := hJ (PIo.new HX1.out HB2.out)
 have HY2 := hJ (PIo.new HY1.out HB2.out)
 have HW2 := hJ (bt HB1.out HB2.out)
 clear hr2 hb2 a0 a1 b0 b1 HA1 HBB1 HZ1 HX1 HY1 HB1 HB2
 obtain ⟨b0, b1⟩ := HBB2.out.cells
 go_wp2_with fail
 clear hx2 hgd
 refine (sign_any q s' A' n' c' x2 HY2.out (by omega)).mono ?_
 rw [HU.out]
 rintro e w3 ⟨rfl, hb3⟩
 have HW3 := hJ (bt HW2.out hb3)
 have HA3 := hJ (HA2.out.new hb3)
 have HBB3 := hJ (HBB2.out.new hb3)
 have HD3 := hJ (HD2.out.new hb3)
 have HZ3 := hJ (HZ2.out.new hb3)
 have HX3 := hJ (PIo.new HX2.out hb3)
 have HY3 := hJ (PIo.new HY2.out hb3)
 have HR3 := hJ (PIo.new HR2.out hb3)
 clear hb3 b0 b1 HA2 HBB2 HD2 HZ2 HX2 HY2 HR2 HW2
 rcases cmp_cases q with ⟨hneg, hcu⟩ | ⟨hneg, hcu⟩
 ·have HNEG := hJ hneg
  have hlt : u < 0 := by rw [← HU.out]; exact hcu
  obtain ⟨d0, d1⟩ := HD3.out.cells
  have f0 := HD3.out.frozen 0
  have f1 := HD3.out.frozen 1
  go_wp2_with fail
  refine (pneg_any G s2 A2 n2 c2 w3 HR3.out (by have := plim HR3.out HGL.out.2.2.1; omega)).mono ?_
  rintro e w4 ⟨s4, A4, n4, c4, rfl, hr4, hb4⟩
  have HD40 := hJ (HD3.out.new hb4)
  have hg40 := HD40.out.frozen 0
  have hg41 := HD40.out.frozen 1
  obtain ⟨hc40, hc41⟩ := HD40.out.cells
  obtain ⟨x4, hx4⟩ := nmz ((w4.setCell ⟨gd, 0, none⟩ (.bool s4)).setCell ⟨gd, 1, none⟩ (.slice A4 n4 c4))
  have HW4 := hJ (show Below w.heap.size w x4 by rw [← hx4]; exact below_box (bt HW3.out hb4) HGD.out.1 _ _)
  have HA4 := hJ (show P2 33 x4 h (.bool s) (.slice A n c) by rw [← hx4]; exact (HA3.out.new hb4).far2 (show h ≠ gd by have := HGE.out; omega) _ _)
  have HBB4 := hJ (show P2 33 x4 (h + 1) (.bool s') (.slice A' n' c') by rw [← hx4]; exact (HBB3.out.new hb4).far2 (show h + 1 ≠ gd by have := HGE.out; omega) _ _)
  have HD4 := hJ (show P2 33 x4 gd (.bool s4) (.slice A4 n4 c4) by rw [← hx4]; exact HD40.out.all _ _)
  have HZ4 := hJ (show P4 35 x4 (h + 1 + 1) (.bool false) (.slice none 0 0) (.bool false) (.slice none 0 0) by rw [← hx4]; exact (HZ3.out.new hb4).far2 (show h + 1 + 1 ≠ gd by have := HGE.out; omega) _ _)
  have HX4 := hJ (show PI x4 s A n c p by rw [← hx4]; exact PIo.box (PIo.new HX3.out hb4) HD40.out rfl rfl _ _)
  have HY4 := hJ (show PI x4 s' A' n' c' q by rw [← hx4]; exact PIo.box (PIo.new HY3.out hb4) HD40.out rfl rfl _ _)
  have HR4 := hJ (show PI x4 s4 A4 n4 c4 (-G) by rw [← hx4]; exact PIo.box hr4 HD40.out rfl rfl _ _)
  clear hr4 hb4 d0 d1 f0 f1 HA3 HBB3 HD3 HZ3 HX3 HY3 HR3 HW3 HD40
  go_wp2_with fail
  clear hx4 hg40 hg41 hc40 hc41 hlt
  obtain ⟨d, hd⟩ : ∃ d, -G = d := ⟨_, rfl⟩
  have HDV := hJ (show mkD p q = d by rw [← hd, mkD, if_pos HNEG.out, HGV.out])
  rw [hd] at HR4
  clear hd
  have HD0 := hJ (show d ≠ 0 by rw [← HDV.out]; exact mkD_ne HQ0.out)
  have HP1 := hJ (show p / d = mkP p q by rw [mkP, if_neg HQ0.out, HDV.out])
  have HQ1 := hJ (show q / d = mkQ p q by rw [mkQ, if_neg HQ0.out, HDV.out])
  have HC1 := hJ (show mkC q = 0 from if_neg HQ0.out)
  have HQL := hJ (show (mkQ p q).natAbs < lim from (mk_lim HQ0.out HP00.out HQ00.out).2)
  have hnd : n4 ≤ 512 := plim HR4.out (by rw [← HDV.out]; exact mkD_lim HQ0.out HP00.out HQ00.out)
  obtain ⟨P, hP⟩ := nmz (mkP p q)
  obtain ⟨Q, hQ⟩ := nmz (mkQ p q)
  rw [hP] at HP1
  rw [hQ] at HQ1 HQL
  have HRES := hJ (And.intro hP (And.intro hQ HC1.out))
  clear hP hQ HC1
  obtain ⟨v0, hv0⟩ := nmz (World.drew x4)
  have HD0 := hJ (show Below x4.heap.size x4 v0 by rw [← hv0]; exact (Below.refl _ _).drew)
  have HX_0 := hJ (bt HW4.out HD0.out)
  have P_0 := hJ (PIo.new HX4.out HD0.out)
  have Q_0 := hJ (PIo.new HY4.out HD0.out)
  have D_0 := hJ (PIo.new HR4.out HD0.out)
  have HP_p_0 := hJ (HA4.out.new HD0.out)
  have HP_q_0 := hJ (HBB4.out.new HD0.out)
  have HP_d_0 := hJ (HD4.out.new HD0.out)
  have HP_z_0 := hJ (HZ4.out.new HD0.out)
  refine wp_region_held_drew (S := (fun w' : World => w'.cell? ⟨h, 0, none⟩ = some (.bool s) ∧ w'.cell? ⟨h, 1, none⟩ = some (.slice A n c) ∧ w'.cell? ⟨(h + 1), 0, none⟩ = some (.bool s') ∧ w'.cell? ⟨(h + 1), 1, none⟩ = some (.slice A' n' c') ∧ w'.cell? ⟨gd, 0, none⟩ = some (.bool s4) ∧ w'.cell? ⟨gd, 1, none⟩ = some (.slice A4 n4 c4) ∧ Below w.heap.size w w')) (by kernel_rfl) ?_ (fun hHeld => ?_)
  ·rw [hv0]
   exact ⟨HP_p_0.out.cells.1, HP_p_0.out.cells.2, HP_q_0.out.cells.1, HP_q_0.out.cells.2, HP_d_0.out.cells.1, HP_d_0.out.cells.2, HX_0.out⟩
  rw [hv0] at hHeld ⊢
  clear hv0 HD0
  refine tq 0 ?_
  try simp only [PT]
  refine tq 1 ?_
  try simp only [PT]
  refine tq 3 ?_
  try simp only [PT]
  refine tq 4 ?_
  try simp only [PT]
  refine wpAnyH_ready (rs := [2]) (by kernel_rfl) (by simp) ?_
  refine .cons rfl (fun K hK => ?_) .nil
  go_simp
  go_at_call_of 102 (#[Value.agg #[.bool s, .slice A n c], Value.agg #[.bool s4, .slice A4 n4 c4]])
  refine (fdivided_any p d s s4 A A4 n c n4 c4 v0 (P_0.out) (D_0.out) (by omega) (by omega) HD0.out).mono ?_
  rintro e v1 ⟨s5, A5, n5, c5, rfl, hr, hk⟩
  have R5_1 := hJ (PIo.eq hr HP1.out)
  have HB_1 := hJ hk
  go_wp2_with fail
  have HX_1 := hJ (bt HX_0.out HB_1.out)
  have P_1 := hJ (PIo.new P_0.out HB_1.out)
  have Q_1 := hJ (PIo.new Q_0.out HB_1.out)
  have D_1 := hJ (PIo.new D_0.out HB_1.out)
  have HP_p_1 := hJ (HP_p_0.out.new HB_1.out)
  have HP_q_1 := hJ (HP_q_0.out.new HB_1.out)
  have HP_d_1 := hJ (HP_d_0.out.new HB_1.out)
  have HP_z_1 := hJ (HP_z_0.out.new HB_1.out)
  clear hHeld
  refine hK.out _ _ (⟨HP_p_1.out.cells.1, HP_p_1.out.cells.2, HP_q_1.out.cells.1, HP_q_1.out.cells.2, HP_d_1.out.cells.1, HP_d_1.out.cells.2, HX_1.out⟩) (fun hHeld => ?_)
  clear hK K hk HB_1 hr HX_0 P_0 Q_0 D_0 HP_p_0 HP_q_0 HP_d_0 HP_z_0
  try simp only [PT]
  refine wpAnyH_ready (rs := [5]) (by kernel_rfl) (by simp) ?_
  refine .cons rfl (fun K hK => ?_) .nil
  go_simp
  go_at_call_of 102 (#[Value.agg #[.bool s', .slice A' n' c'], Value.agg #[.bool s4, .slice A4 n4 c4]])
  refine (fdivided_any q d s' s4 A' A4 n' c' n4 c4 v1 (Q_1.out) (D_1.out) (by omega) (by omega) HD0.out).mono ?_
  rintro e v2 ⟨s6, A6, n6, c6, rfl, hr, hk⟩
  have R6_2 := hJ (PIo.eq hr HQ1.out)
  have HB_2 := hJ hk
  go_wp2_with fail
  have HX_2 := hJ (bt HX_1.out HB_2.out)
  have P_2 := hJ (PIo.new P_1.out HB_2.out)
  have Q_2 := hJ (PIo.new Q_1.out HB_2.out)
  have D_2 := hJ (PIo.new D_1.out HB_2.out)
  have R5_2 := hJ (PIo.new R5_1.out HB_2.out)
  have HP_p_2 := hJ (HP_p_1.out.new HB_2.out)
  have HP_q_2 := hJ (HP_q_1.out.new HB_2.out)
  have HP_d_2 := hJ (HP_d_1.out.new HB_2.out)
  have HP_z_2 := hJ (HP_z_1.out.new HB_2.out)
  clear hHeld
  refine hK.out _ _ (⟨HP_p_2.out.cells.1, HP_p_2.out.cells.2, HP_q_2.out.cells.1, HP_q_2.out.cells.2, HP_d_2.out.cells.1, HP_d_2.out.cells.2, HX_2.out⟩) (fun hHeld => ?_)
  clear hK K hk HB_2 hr HX_1 P_1 Q_1 D_1 R5_1 HP_p_1 HP_q_1 HP_d_1 HP_z_1
  try simp only [PT]
  refine wpAnyH_ready (rs := [6]) (by kernel_rfl) (by simp) ?_
  refine .cons rfl (fun K hK => ?_) .nil
  go_simp
  go_at_call 101
  refine (flowest_any P Q s5 s6 A5 A6 n5 c5 n6 c6 v2 (R5_2.out) (R6_2.out) (by have := plim R6_2.out HQL.out; omega)).mono ?_
  rintro e v3 ⟨s7, A7, n7, c7, s8, A8, n8, c8, rfl, hr, hk⟩
  have R7_3 := hJ (hr)
  have HB_3 := hJ hk
  go_wp2_with fail
  have HX_3 := hJ (bt HX_2.out HB_3.out)
  have P_3 := hJ (PIo.new P_2.out HB_3.out)
  have Q_3 := hJ (PIo.new Q_2.out HB_3.out)
  have D_3 := hJ (PIo.new D_2.out HB_3.out)
  have R5_3 := hJ (PIo.new R5_2.out HB_3.out)
  have R6_3 := hJ (PIo.new R6_2.out HB_3.out)
  have HP_p_3 := hJ (HP_p_2.out.new HB_3.out)
  have HP_q_3 := hJ (HP_q_2.out.new HB_3.out)
  have HP_d_3 := hJ (HP_d_2.out.new HB_3.out)
  have HP_z_3 := hJ (HP_z_2.out.new HB_3.out)
  clear hHeld
  refine hK.out _ _ (⟨HP_p_3.out.cells.1, HP_p_3.out.cells.2, HP_q_3.out.cells.1, HP_q_3.out.cells.2, HP_d_3.out.cells.1, HP_d_3.out.cells.2, HX_3.out⟩) (fun hHeld => ?_)
  clear hK K hk HB_3 hr HX_2 P_2 Q_2 D_2 R5_2 R6_2 HP_p_2 HP_q_2 HP_d_2 HP_z_2
  try simp only [PT]
  refine wpAnyH_ready (rs := [7]) (by kernel_rfl) (by simp) ?_
  refine .cons rfl (fun K hK => ?_) .nil
  obtain ⟨z0, z1, z2, z3⟩ := HP_z_3.out.cells
  have y0 := HP_z_3.out.frozen 0
  have y1 := HP_z_3.out.frozen 1
  have y2 := HP_z_3.out.frozen 2
  have y3 := HP_z_3.out.frozen 3
  have z9 := HP_z_3.out.lt
  go_simp
  obtain ⟨v4, hV⟩ := nmz (World.setCell (World.setCell (World.setCell (World.setCell v3 ⟨(h + 1 + 1), 0, none⟩ (.bool s7)) ⟨(h + 1 + 1), 1, none⟩ (.slice A7 n7 c7)) ⟨(h + 1 + 1), 2, none⟩ (.bool s8)) ⟨(h + 1 + 1), 3, none⟩ (.slice A8 n8 c8))
  rw [hV]
  have HX_4 := hJ (show Below w.heap.size w v4 by rw [← hV]; exact below_box4 HX_3.out (by rw [HH.out]; omega) _ _ _ _)
  have P_4 := hJ (show PI v4 s A n c (p) by rw [← hV]; exact PIo.box4 (P_3.out) (HP_z_3.out) rfl rfl rfl rfl (.bool s7) (.slice A7 n7 c7) (.bool s8) (.slice A8 n8 c8))
  have Q_4 := hJ (show PI v4 s' A' n' c' (q) by rw [← hV]; exact PIo.box4 (Q_3.out) (HP_z_3.out) rfl rfl rfl rfl (.bool s7) (.slice A7 n7 c7) (.bool s8) (.slice A8 n8 c8))
  have D_4 := hJ (show PI v4 s4 A4 n4 c4 (d) by rw [← hV]; exact PIo.box4 (D_3.out) (HP_z_3.out) rfl rfl rfl rfl (.bool s7) (.slice A7 n7 c7) (.bool s8) (.slice A8 n8 c8))
  have R5_4 := hJ (show PI v4 s5 A5 n5 c5 (P) by rw [← hV]; exact PIo.box4 (R5_3.out) (HP_z_3.out) rfl rfl rfl rfl (.bool s7) (.slice A7 n7 c7) (.bool s8) (.slice A8 n8 c8))
  have R6_4 := hJ (show PI v4 s6 A6 n6 c6 (Q) by rw [← hV]; exact PIo.box4 (R6_3.out) (HP_z_3.out) rfl rfl rfl rfl (.bool s7) (.slice A7 n7 c7) (.bool s8) (.slice A8 n8 c8))
  have R7_4 := hJ (show PF v4 s7 A7 n7 c7 s8 A8 n8 c8 (P) (Q) by rw [← hV]; exact PF.box4 (R7_3.out) (HP_z_3.out) (.bool s7) (.slice A7 n7 c7) (.bool s8) (.slice A8 n8 c8))
  have HP_p_4 := hJ (show P2 33 v4 h (.bool s) (.slice A n c) by rw [← hV]; exact HP_p_3.out.far4 (show h ≠ (h + 1 + 1) from (by omega)) (.bool s7) (.slice A7 n7 c7) (.bool s8) (.slice A8 n8 c8))
  have HP_q_4 := hJ (show P2 33 v4 (h + 1) (.bool s') (.slice A' n' c') by rw [← hV]; exact HP_q_3.out.far4 (show (h + 1) ≠ (h + 1 + 1) from (by omega)) (.bool s7) (.slice A7 n7 c7) (.bool s8) (.slice A8 n8 c8))
  have HP_d_4 := hJ (show P2 33 v4 gd (.bool s4) (.slice A4 n4 c4) by rw [← hV]; exact HP_d_3.out.far4 (show gd ≠ (h + 1 + 1) from HGD.out.2) (.bool s7) (.slice A7 n7 c7) (.bool s8) (.slice A8 n8 c8))
  have HP_z_4 := hJ (show P4 35 v4 (h + 1 + 1) (.bool s7) (.slice A7 n7 c7) (.bool s8) (.slice A8 n8 c8) by rw [← hV]; exact HP_z_3.out.all (.bool s7) (.slice A7 n7 c7) (.bool s8) (.slice A8 n8 c8))
  clear hHeld
  refine hK.out _ _ (⟨HP_p_4.out.cells.1, HP_p_4.out.cells.2, HP_q_4.out.cells.1, HP_q_4.out.cells.2, HP_d_4.out.cells.1, HP_d_4.out.cells.2, HX_4.out⟩) (fun hHeld => ?_)
  clear hK K hV z9 z0 z1 z2 z3 y0 y1 y2 y3 HX_3 P_3 Q_3 D_3 R5_3 R6_3 R7_3 HP_p_3 HP_q_3 HP_d_3 HP_z_3
  try simp only [PT]
  refine tq 8 ?_
  try simp only [PT]
  refine wpAnyH_done (by kernel_rfl) ?_ _
  clear hHeld
  go_wp2
  exact bodyPost_ret (results_cell1 rfl _ _ _ _ _ _ _ rfl (HP_z_4.out) Tryz.underlying35 rfl F_size) rfl (by rw [HRES.out.1, HRES.out.2.1, HRES.out.2.2]; exact ⟨s7, A7, n7, c7, s8, A8, n8, c8, rfl, R7_4.out, HX_4.out⟩)
 ·have HNEG := hJ hneg
  have hlt : ¬ u < 0 := by rw [← HU.out]; exact hcu
  go_wp2_with fail
  clear hlt
  have HDV := hJ (show mkD p q = G by rw [mkD, if_neg (by have := HNEG.out; omega), HGV.out])
  have HD0 := hJ (show G ≠ 0 by rw [← HDV.out]; exact mkD_ne HQ0.out)
  have HP1 := hJ (show p / G = mkP p q by rw [mkP, if_neg HQ0.out, HDV.out])
  have HQ1 := hJ (show q / G = mkQ p q by rw [mkQ, if_neg HQ0.out, HDV.out])
  have HC1 := hJ (show mkC q = 0 from if_neg HQ0.out)
  have HQL := hJ (show (mkQ p q).natAbs < lim from (mk_lim HQ0.out HP00.out HQ00.out).2)
  have hnd : n2 ≤ 512 := plim HR3.out (by rw [← HDV.out]; exact mkD_lim HQ0.out HP00.out HQ00.out)
  obtain ⟨P, hP⟩ := nmz (mkP p q)
  obtain ⟨Q, hQ⟩ := nmz (mkQ p q)
  rw [hP] at HP1
  rw [hQ] at HQ1 HQL
  have HRES := hJ (And.intro hP (And.intro hQ HC1.out))
  clear hP hQ HC1
  obtain ⟨v0, hv0⟩ := nmz (World.drew w3)
  have HD0 := hJ (show Below w3.heap.size w3 v0 by rw [← hv0]; exact (Below.refl _ _).drew)
  have HX_0 := hJ (bt HW3.out HD0.out)
  have P_0 := hJ (PIo.new HX3.out HD0.out)
  have Q_0 := hJ (PIo.new HY3.out HD0.out)
  have D_0 := hJ (PIo.new HR3.out HD0.out)
  have HP_p_0 := hJ (HA3.out.new HD0.out)
  have HP_q_0 := hJ (HBB3.out.new HD0.out)
  have HP_d_0 := hJ (HD3.out.new HD0.out)
  have HP_z_0 := hJ (HZ3.out.new HD0.out)
  refine wp_region_held_drew (S := (fun w' : World => w'.cell? ⟨h, 0, none⟩ = some (.bool s) ∧ w'.cell? ⟨h, 1, none⟩ = some (.slice A n c) ∧ w'.cell? ⟨(h + 1), 0, none⟩ = some (.bool s') ∧ w'.cell? ⟨(h + 1), 1, none⟩ = some (.slice A' n' c') ∧ w'.cell? ⟨gd, 0, none⟩ = some (.bool s2) ∧ w'.cell? ⟨gd, 1, none⟩ = some (.slice A2 n2 c2) ∧ Below w.heap.size w w')) (by kernel_rfl) ?_ (fun hHeld => ?_)
  ·rw [hv0]
   exact ⟨HP_p_0.out.cells.1, HP_p_0.out.cells.2, HP_q_0.out.cells.1, HP_q_0.out.cells.2, HP_d_0.out.cells.1, HP_d_0.out.cells.2, HX_0.out⟩
  rw [hv0] at hHeld ⊢
  clear hv0 HD0
  refine tq 0 ?_
  try simp only [PT]
  refine tq 1 ?_
  try simp only [PT]
  refine tq 3 ?_
  try simp only [PT]
  refine tq 4 ?_
  try simp only [PT]
  refine wpAnyH_ready (rs := [2]) (by kernel_rfl) (by simp) ?_
  refine .cons rfl (fun K hK => ?_) .nil
  go_simp
  go_at_call_of 102 (#[Value.agg #[.bool s, .slice A n c], Value.agg #[.bool s2, .slice A2 n2 c2]])
  refine (fdivided_any p G s s2 A A2 n c n2 c2 v0 (P_0.out) (D_0.out) (by omega) (by omega) HD0.out).mono ?_
  rintro e v1 ⟨s5, A5, n5, c5, rfl, hr, hk⟩
  have R5_1 := hJ (PIo.eq hr HP1.out)
  have HB_1 := hJ hk
  go_wp2_with fail
  have HX_1 := hJ (bt HX_0.out HB_1.out)
  have P_1 := hJ (PIo.new P_0.out HB_1.out)
  have Q_1 := hJ (PIo.new Q_0.out HB_1.out)
  have D_1 := hJ (PIo.new D_0.out HB_1.out)
  have HP_p_1 := hJ (HP_p_0.out.new HB_1.out)
  have HP_q_1 := hJ (HP_q_0.out.new HB_1.out)
  have HP_d_1 := hJ (HP_d_0.out.new HB_1.out)
  have HP_z_1 := hJ (HP_z_0.out.new HB_1.out)
  clear hHeld
  refine hK.out _ _ (⟨HP_p_1.out.cells.1, HP_p_1.out.cells.2, HP_q_1.out.cells.1, HP_q_1.out.cells.2, HP_d_1.out.cells.1, HP_d_1.out.cells.2, HX_1.out⟩) (fun hHeld => ?_)
  clear hK K hk HB_1 hr HX_0 P_0 Q_0 D_0 HP_p_0 HP_q_0 HP_d_0 HP_z_0
  try simp only [PT]
  refine wpAnyH_ready (rs := [5]) (by kernel_rfl) (by simp) ?_
  refine .cons rfl (fun K hK => ?_) .nil
  go_simp
  go_at_call_of 102 (#[Value.agg #[.bool s', .slice A' n' c'], Value.agg #[.bool s2, .slice A2 n2 c2]])
  refine (fdivided_any q G s' s2 A' A2 n' c' n2 c2 v1 (Q_1.out) (D_1.out) (by omega) (by omega) HD0.out).mono ?_
  rintro e v2 ⟨s6, A6, n6, c6, rfl, hr, hk⟩
  have R6_2 := hJ (PIo.eq hr HQ1.out)
  have HB_2 := hJ hk
  go_wp2_with fail
  have HX_2 := hJ (bt HX_1.out HB_2.out)
  have P_2 := hJ (PIo.new P_1.out HB_2.out)
  have Q_2 := hJ (PIo.new Q_1.out HB_2.out)
  have D_2 := hJ (PIo.new D_1.out HB_2.out)
  have R5_2 := hJ (PIo.new R5_1.out HB_2.out)
  have HP_p_2 := hJ (HP_p_1.out.new HB_2.out)
  have HP_q_2 := hJ (HP_q_1.out.new HB_2.out)
  have HP_d_2 := hJ (HP_d_1.out.new HB_2.out)
  have HP_z_2 := hJ (HP_z_1.out.new HB_2.out)
  clear hHeld
  refine hK.out _ _ (⟨HP_p_2.out.cells.1, HP_p_2.out.cells.2, HP_q_2.out.cells.1, HP_q_2.out.cells.2, HP_d_2.out.cells.1, HP_d_2.out.cells.2, HX_2.out⟩) (fun hHeld => ?_)
  clear hK K hk HB_2 hr HX_1 P_1 Q_1 D_1 R5_1 HP_p_1 HP_q_1 HP_d_1 HP_z_1
  try simp only [PT]
  refine wpAnyH_ready (rs := [6]) (by kernel_rfl) (by simp) ?_
  refine .cons rfl (fun K hK => ?_) .nil
  go_simp
  go_at_call 101
  refine (flowest_any P Q s5 s6 A5 A6 n5 c5 n6 c6 v2 (R5_2.out) (R6_2.out) (by have := plim R6_2.out HQL.out; omega)).mono ?_
  rintro e v3 ⟨s7, A7, n7, c7, s8, A8, n8, c8, rfl, hr, hk⟩
  have R7_3 := hJ (hr)
  have HB_3 := hJ hk
  go_wp2_with fail
  have HX_3 := hJ (bt HX_2.out HB_3.out)
  have P_3 := hJ (PIo.new P_2.out HB_3.out)
  have Q_3 := hJ (PIo.new Q_2.out HB_3.out)
  have D_3 := hJ (PIo.new D_2.out HB_3.out)
  have R5_3 := hJ (PIo.new R5_2.out HB_3.out)
  have R6_3 := hJ (PIo.new R6_2.out HB_3.out)
  have HP_p_3 := hJ (HP_p_2.out.new HB_3.out)
  have HP_q_3 := hJ (HP_q_2.out.new HB_3.out)
  have HP_d_3 := hJ (HP_d_2.out.new HB_3.out)
  have HP_z_3 := hJ (HP_z_2.out.new HB_3.out)
  clear hHeld
  refine hK.out _ _ (⟨HP_p_3.out.cells.1, HP_p_3.out.cells.2, HP_q_3.out.cells.1, HP_q_3.out.cells.2, HP_d_3.out.cells.1, HP_d_3.out.cells.2, HX_3.out⟩) (fun hHeld => ?_)
  clear hK K hk HB_3 hr HX_2 P_2 Q_2 D_2 R5_2 R6_2 HP_p_2 HP_q_2 HP_d_2 HP_z_2
  try simp only [PT]
  refine wpAnyH_ready (rs := [7]) (by kernel_rfl) (by simp) ?_
  refine .cons rfl (fun K hK => ?_) .nil
  obtain ⟨z0, z1, z2, z3⟩ := HP_z_3.out.cells
  have y0 := HP_z_3.out.frozen 0
  have y1 := HP_z_3.out.frozen 1
  have y2 := HP_z_3.out.frozen 2
  have y3 := HP_z_3.out.frozen 3
  have z9 := HP_z_3.out.lt
  go_simp
  obtain ⟨v4, hV⟩ := nmz (World.setCell (World.setCell (World.setCell (World.setCell v3 ⟨(h + 1 + 1), 0, none⟩ (.bool s7)) ⟨(h + 1 + 1), 1, none⟩ (.slice A7 n7 c7)) ⟨(h + 1 + 1), 2, none⟩ (.bool s8)) ⟨(h + 1 + 1), 3, none⟩ (.slice A8 n8 c8))
  rw [hV]
  have HX_4 := hJ (show Below w.heap.size w v4 by rw [← hV]; exact below_box4 HX_3.out (by rw [HH.out]; omega) _ _ _ _)
  have P_4 := hJ (show PI v4 s A n c (p) by rw [← hV]; exact PIo.box4 (P_3.out) (HP_z_3.out) rfl rfl rfl rfl (.bool s7) (.slice A7 n7 c7) (.bool s8) (.slice A8 n8 c8))
  have Q_4 := hJ (show PI v4 s' A' n' c' (q) by rw [← hV]; exact PIo.box4 (Q_3.out) (HP_z_3.out) rfl rfl rfl rfl (.bool s7) (.slice A7 n7 c7) (.bool s8) (.slice A8 n8 c8))
  have D_4 := hJ (show PI v4 s2 A2 n2 c2 (G) by rw [← hV]; exact PIo.box4 (D_3.out) (HP_z_3.out) rfl rfl rfl rfl (.bool s7) (.slice A7 n7 c7) (.bool s8) (.slice A8 n8 c8))
  have R5_4 := hJ (show PI v4 s5 A5 n5 c5 (P) by rw [← hV]; exact PIo.box4 (R5_3.out) (HP_z_3.out) rfl rfl rfl rfl (.bool s7) (.slice A7 n7 c7) (.bool s8) (.slice A8 n8 c8))
  have R6_4 := hJ (show PI v4 s6 A6 n6 c6 (Q) by rw [← hV]; exact PIo.box4 (R6_3.out) (HP_z_3.out) rfl rfl rfl rfl (.bool s7) (.slice A7 n7 c7) (.bool s8) (.slice A8 n8 c8))
  have R7_4 := hJ (show PF v4 s7 A7 n7 c7 s8 A8 n8 c8 (P) (Q) by rw [← hV]; exact PF.box4 (R7_3.out) (HP_z_3.out) (.bool s7) (.slice A7 n7 c7) (.bool s8) (.slice A8 n8 c8))
  have HP_p_4 := hJ (show P2 33 v4 h (.bool s) (.slice A n c) by rw [← hV]; exact HP_p_3.out.far4 (show h ≠ (h + 1 + 1) from (by omega)) (.bool s7) (.slice A7 n7 c7) (.bool s8) (.slice A8 n8 c8))
  have HP_q_4 := hJ (show P2 33 v4 (h + 1) (.bool s') (.slice A' n' c') by rw [← hV]; exact HP_q_3.out.far4 (show (h + 1) ≠ (h + 1 + 1) from (by omega)) (.bool s7) (.slice A7 n7 c7) (.bool s8) (.slice A8 n8 c8))
  have HP_d_4 := hJ (show P2 33 v4 gd (.bool s2) (.slice A2 n2 c2) by rw [← hV]; exact HP_d_3.out.far4 (show gd ≠ (h + 1 + 1) from HGD.out.2) (.bool s7) (.slice A7 n7 c7) (.bool s8) (.slice A8 n8 c8))
  have HP_z_4 := hJ (show P4 35 v4 (h + 1 + 1) (.bool s7) (.slice A7 n7 c7) (.bool s8) (.slice A8 n8 c8) by rw [← hV]; exact HP_z_3.out.all (.bool s7) (.slice A7 n7 c7) (.bool s8) (.slice A8 n8 c8))
  clear hHeld
  refine hK.out _ _ (⟨HP_p_4.out.cells.1, HP_p_4.out.cells.2, HP_q_4.out.cells.1, HP_q_4.out.cells.2, HP_d_4.out.cells.1, HP_d_4.out.cells.2, HX_4.out⟩) (fun hHeld => ?_)
  clear hK K hV z9 z0 z1 z2 z3 y0 y1 y2 y3 HX_3 P_3 Q_3 D_3 R5_3 R6_3 R7_3 HP_p_3 HP_q_3 HP_d_3 HP_z_3
  try simp only [PT]
  refine tq 8 ?_
  try simp only [PT]
  refine wpAnyH_done (by kernel_rfl) ?_ _
  clear hHeld
  go_wp2
  exact bodyPost_ret (results_cell1 rfl _ _ _ _ _ _ _ rfl (HP_z_4.out) Tryz.underlying35 rfl F_size) rfl (by rw [HRES.out.1, HRES.out.2.1, HRES.out.2.2]; exact ⟨s7, A7, n7, c7, s8, A8, n8, c8, rfl, R7_4.out, HX_4.out⟩)
end Go.Proofs.YtbhnaffbgggabaaGreat
