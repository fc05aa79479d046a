/- Contracts: Turn, Sector, SideOf. Conditions: as each statement has them. -/
import Derived.Test.YtdamadkhbeonaaaEA
namespace Go.Proofs.Ytdamadkhbeonaaa
open Go.RowKit
attribute [local go_sem ↓] Go.wp_at_zero Go.wp_at_succ
set_option linter.unusedVariables false
set_option linter.unusedSimpArgs false
set_option maxRecDepth 100000 in
set_option maxHeartbeats 1600000 in
theorem turn_any (a b c d : Int) (w : World) :
  Calls Try.prog 15 #[.agg #[.int .i64 a, .int .i64 b], .agg #[.int .i64 c, .int .i64 d]] w fun e w' => e = .returned (.tuple #[.int .i64 (tuV a b c d), .int .i64 (tuE a b c d)]) ∧ Below w.heap.size w w' := by
 obtain ⟨E, hE⟩ := nmz (tuE a b c d)
 have HE := hJ hE
 clear hE
 obtain ⟨x1, hx1⟩ := nmz ((w.alloc (.cells #[.int .i64 a, .int .i64 b] 25)).alloc (.cells #[.int .i64 c, .int .i64 d] 25))
 have HB1 := hJ (show Below w.heap.size w x1 by rw [← hx1]; exact (((Below.refl _ _).alloc (Nat.le_refl _) _).alloc (by simp only [World.size_alloc]; omega) _))
 have HQ1x0 := hJ (show BX 25 x1 w.heap.size #[.int .i64 a, .int .i64 b] by rw [← hx1]; exact ((BX.at rfl).alloc _))
 have HG1x0 := hJ (show w.heap.size ≤ w.heap.size by omega)
 have HL1x0 := hJ (show w.heap.size < x1.heap.size from HQ1x0.out.lt)
 have HQ1x1 := hJ (show BX 25 x1 (w.heap.size + 1) #[.int .i64 c, .int .i64 d] by rw [← hx1]; exact (BX.at (by simp only [World.size_alloc])))
 have HG1x1 := hJ (show w.heap.size ≤ w.heap.size + 1 by omega)
 have HL1x1 := hJ (show w.heap.size + 1 < x1.heap.size from HQ1x1.out.lt)
 obtain ⟨cl2, cl3⟩ := HQ1x0.out.c2 0 1 rfl rfl
 obtain ⟨cl4, cl5⟩ := HQ1x1.out.c2 0 1 rfl rfl
 obtain ⟨x6, hx6⟩ := nmz (x1.alloc (.cells #[.int .i64 a, .int .i64 b, .int .i64 c, .int .i64 d] 25))
 have HB6 := hJ (show Below x1.heap.size x1 x6 by rw [← hx6]; exact ((Below.refl _ _).alloc (Nat.le_refl _) _))
 have HQ6x0 := hJ (show BX 25 x6 x1.heap.size #[.int .i64 a, .int .i64 b, .int .i64 c, .int .i64 d] by rw [← hx6]; exact (BX.at rfl))
 have HG6x0 := hJ (show x1.heap.size ≤ x1.heap.size by omega)
 have HL6x0 := hJ (show x1.heap.size < x6.heap.size from HQ6x0.out.lt)
 go_enter Try.func15, Try.ntmps15
 go_wp2_with fail
 clear hx1 cl2 cl3 cl4 cl5 hx6
 refine (dirs_any [(a, b), (c, d)] 2 x1.heap.size x6 rfl (by decide) HQ6x0.out).mono ?_
 rw [show fsE diP [(a, b), (c, d)] = E from HE.out]
 rintro e w7 ⟨rfl, hb⟩
 have HB7 := hJ hb
 clear hb
 by_cases hE0 : E = 0
 ·subst hE0
  have HV := hJ (show tuV a b c d = angV a b c d from if_pos HE.out)
  have HA := hJ (ang_wraps (di_nk (fs_two HE.out).1) (di_nk (fs_two HE.out).2))
  have HC1_3 := hJ (bt HB6.out HB7.out)
  have HQ1x0w3 := hJ (BX.new HQ1x0.out HC1_3.out)
  obtain ⟨cl8, cl9⟩ := HQ1x0w3.out.c2 0 1 rfl rfl
  have HQ1x1w3 := hJ (BX.new HQ1x1.out HC1_3.out)
  obtain ⟨cl10, cl11⟩ := HQ1x1w3.out.c2 0 1 rfl rfl
  go_wp2_with fail
  clear cl8 cl9 cl10 cl11
  refine (angles_any a b c d w7 HA.out).mono ?_
  rintro e w12 ⟨rfl, hb⟩
  have HB12 := hJ hb
  clear hb
  have HC0_4 := hJ (bt (bt (bt HB1.out HB6.out) HB7.out) HB12.out)
  go_wp2
  go_ret2
  exact ⟨by rw [HV.out, HE.out] <;> rfl, HC0_4.out⟩
 ·have hEz : (E == 0) = false := by simp [hE0]
  have HV := hJ (show tuV a b c d = 0 from if_neg (by rw [HE.out]; exact hE0))
  clear hE0
  have HC0_3 := hJ (bt (bt HB1.out HB6.out) HB7.out)
  go_wp2
  go_ret2
  exact ⟨by rw [HV.out, HE.out] <;> rfl, HC0_3.out⟩
set_option maxRecDepth 100000 in
set_option maxHeartbeats 1600000 in
theorem sector_any (fx fy tx ty dx dy : Int) (w : World) :
  Calls Try.prog 16 #[.agg #[.int .i64 fx, .int .i64 fy], .agg #[.int .i64 tx, .int .i64 ty], .agg #[.int .i64 dx, .int .i64 dy]] w fun e w' => e = .returned (.tuple #[.bool (seB fx fy tx ty dx dy), .int .i64 (seE fx fy tx ty dx dy)]) ∧ Below w.heap.size w w' := by
 obtain ⟨E, hE⟩ := nmz (seE fx fy tx ty dx dy)
 have HE := hJ hE
 clear hE
 obtain ⟨x1, hx1⟩ := nmz (((w.alloc (.cells #[.int .i64 fx, .int .i64 fy] 25)).alloc (.cells #[.int .i64 tx, .int .i64 ty] 25)).alloc (.cells #[.int .i64 dx, .int .i64 dy] 25))
 have HB1 := hJ (show Below w.heap.size w x1 by rw [← hx1]; exact ((((Below.refl _ _).alloc (Nat.le_refl _) _).alloc (by simp only [World.size_alloc]; omega) _).alloc (by simp only [World.size_alloc]; omega) _))
 have HQ1x0 := hJ (show BX 25 x1 w.heap.size #[.int .i64 fx, .int .i64 fy] by rw [← hx1]; exact (((BX.at rfl).alloc _).alloc _))
 have HG1x0 := hJ (show w.heap.size ≤ w.heap.size by omega)
 have HL1x0 := hJ (show w.heap.size < x1.heap.size from HQ1x0.out.lt)
 have HQ1x1 := hJ (show BX 25 x1 (w.heap.size + 1) #[.int .i64 tx, .int .i64 ty] by rw [← hx1]; exact ((BX.at (by simp only [World.size_alloc])).alloc _))
 have HG1x1 := hJ (show w.heap.size ≤ w.heap.size + 1 by omega)
 have HL1x1 := hJ (show w.heap.size + 1 < x1.heap.size from HQ1x1.out.lt)
 have HQ1x2 := hJ (show BX 25 x1 (w.heap.size + 2) #[.int .i64 dx, .int .i64 dy] by rw [← hx1]; exact (BX.at (by simp only [World.size_alloc])))
 have HG1x2 := hJ (show w.heap.size ≤ w.heap.size + 2 by omega)
 have HL1x2 := hJ (show w.heap.size + 2 < x1.heap.size from HQ1x2.out.lt)
 obtain ⟨cl2, cl3⟩ := HQ1x0.out.c2 0 1 rfl rfl
 obtain ⟨cl4, cl5⟩ := HQ1x1.out.c2 0 1 rfl rfl
 obtain ⟨cl6, cl7⟩ := HQ1x2.out.c2 0 1 rfl rfl
 obtain ⟨x8, hx8⟩ := nmz (x1.alloc (.cells #[.int .i64 fx, .int .i64 fy, .int .i64 tx, .int .i64 ty, .int .i64 dx, .int .i64 dy] 25))
 have HB8 := hJ (show Below x1.heap.size x1 x8 by rw [← hx8]; exact ((Below.refl _ _).alloc (Nat.le_refl _) _))
 have HQ8x0 := hJ (show BX 25 x8 x1.heap.size #[.int .i64 fx, .int .i64 fy, .int .i64 tx, .int .i64 ty, .int .i64 dx, .int .i64 dy] by rw [← hx8]; exact (BX.at rfl))
 have HG8x0 := hJ (show x1.heap.size ≤ x1.heap.size by omega)
 have HL8x0 := hJ (show x1.heap.size < x8.heap.size from HQ8x0.out.lt)
 go_enter Try.func16, Try.ntmps16
 go_wp2_with fail
 clear hx1 cl2 cl3 cl4 cl5 cl6 cl7 hx8
 refine (dirs_any [(fx, fy), (tx, ty), (dx, dy)] 3 x1.heap.size x8 rfl (by decide) HQ8x0.out).mono ?_
 rw [show fsE diP [(fx, fy), (tx, ty), (dx, dy)] = E from HE.out]
 rintro e w9 ⟨rfl, hb⟩
 have HB9 := hJ hb
 clear hb
 by_cases hE0 : E = 0
 ·subst hE0
  have HD := hJ (And.intro (di_nk (fs_cons HE.out).1) (And.intro (di_nk (fs_two (fs_cons HE.out).2).1) (di_nk (fs_two (fs_cons HE.out).2).2)))
  obtain ⟨k1, hk1⟩ := nmz (angV fx fy dx dy)
  obtain ⟨k2, hk2⟩ := nmz (angV dx dy tx ty)
  obtain ⟨k3, hk3⟩ := nmz (angV fx fy tx ty)
  have Hk1 := hJ hk1
  have Hk2 := hJ hk2
  have Hk3 := hJ hk3
  clear hk1 hk2 hk3
  rcases (show (k1 < 0 ∧ k2 < 0 ∧ k3 < 0) ∨ (k1 < 0 ∧ k2 < 0 ∧ ¬ k3 < 0) ∨ (k1 < 0 ∧ ¬ k2 < 0 ∧ k3 < 0) ∨ (k1 < 0 ∧ ¬ k2 < 0 ∧ ¬ k3 < 0) ∨ (¬ k1 < 0 ∧ k2 < 0 ∧ k3 < 0) ∨ (¬ k1 < 0 ∧ k2 < 0 ∧ ¬ k3 < 0) ∨ (¬ k1 < 0 ∧ ¬ k2 < 0 ∧ k3 < 0) ∨ (¬ k1 < 0 ∧ ¬ k2 < 0 ∧ ¬ k3 < 0) by omega) with ⟨q1, q2, q3⟩ | ⟨q1, q2, q3⟩ | ⟨q1, q2, q3⟩ | ⟨q1, q2, q3⟩ | ⟨q1, q2, q3⟩ | ⟨q1, q2, q3⟩ | ⟨q1, q2, q3⟩ | ⟨q1, q2, q3⟩
  ·have HV := hJ (show seB fx fy tx ty dx dy = true by rw [seB, if_pos HE.out, scV, Hk1.out, Hk2.out, Hk3.out, if_pos q3, decide_eq_true q1, decide_eq_true q2]; rfl)
   have HC1_3 := hJ (bt HB8.out HB9.out)
   have HQ1x0w3 := hJ (BX.new HQ1x0.out HC1_3.out)
   have HQ1x2w3 := hJ (BX.new HQ1x2.out HC1_3.out)
   have HQ1x1w3 := hJ (BX.new HQ1x1.out HC1_3.out)
   have HS10 : Hid (∀ w', Below w9.heap.size w9 w' → (fun w' : World => w'.cell? ⟨w.heap.size, 0, none⟩ = some (.int .i64 fx) ∧ w'.cell? ⟨w.heap.size, 1, none⟩ = some (.int .i64 fy) ∧ w'.cell? ⟨w.heap.size + 2, 0, none⟩ = some (.int .i64 dx) ∧ w'.cell? ⟨w.heap.size + 2, 1, none⟩ = some (.int .i64 dy) ∧ w'.cell? ⟨w.heap.size + 1, 0, none⟩ = some (.int .i64 tx) ∧ w'.cell? ⟨w.heap.size + 1, 1, none⟩ = some (.int .i64 ty) ∧ Below w9.heap.size w9 w') w') := hJ (fun w' hb => ⟨(BX.new HQ1x0w3.out hb).cell 0 rfl, (BX.new HQ1x0w3.out hb).cell 1 rfl, (BX.new HQ1x2w3.out hb).cell 0 rfl, (BX.new HQ1x2w3.out hb).cell 1 rfl, (BX.new HQ1x1w3.out hb).cell 0 rfl, (BX.new HQ1x1w3.out hb).cell 1 rfl, hb⟩)
   go_wp2_with fail
   obtain ⟨v10, hv10⟩ := nmz (World.drew w9)
   have HX10 := hJ (show Below w9.heap.size w9 v10 by rw [← hv10]; exact (Below.refl _ _).drew)
   refine wp_region_held_drew (S := (fun w' : World => w'.cell? ⟨w.heap.size, 0, none⟩ = some (.int .i64 fx) ∧ w'.cell? ⟨w.heap.size, 1, none⟩ = some (.int .i64 fy) ∧ w'.cell? ⟨w.heap.size + 2, 0, none⟩ = some (.int .i64 dx) ∧ w'.cell? ⟨w.heap.size + 2, 1, none⟩ = some (.int .i64 dy) ∧ w'.cell? ⟨w.heap.size + 1, 0, none⟩ = some (.int .i64 tx) ∧ w'.cell? ⟨w.heap.size + 1, 1, none⟩ = some (.int .i64 ty) ∧ Below w9.heap.size w9 w')) (by kernel_rfl) ?_ (fun hHeld => ?_)
   ·rw [hv10]
    exact HS10.out _ HX10.out
   rw [hv10] at hHeld ⊢
   clear hv10
   refine tq 0 ?_
   try simp only [PT]
   refine tq 1 ?_
   try simp only [PT]
   refine tq 4 ?_
   try simp only [PT]
   refine tq 5 ?_
   try simp only [PT]
   refine wpAnyH_ready (rs := [2]) (by kernel_rfl) (by simp) ?_
   refine .cons rfl (fun K hK => ?_) .nil
   go_simp
   go_at_call 30
   refine (angles_any fx fy dx dy v10 (ang_wraps HD.out.1 HD.out.2.2)).mono ?_
   rw [Hk1.out]
   rintro e v11 ⟨rfl, hb⟩
   have HB11 := hJ hb
   clear hb
   go_wp2_with fail
   have HX11 := hJ (bt HX10.out HB11.out)
   clear hHeld
   refine hK.out _ _ (HS10.out _ HX11.out) (fun hHeld => ?_)
   clear hK K
   try simp only [PT]
   refine tq 3 ?_
   try simp only [PT]
   refine wpAnyH_ready (rs := [6]) (by kernel_rfl) (by simp) ?_
   refine .cons rfl (fun K hK => ?_) .nil
   go_simp
   go_at_call 30
   refine (angles_any dx dy tx ty v11 (ang_wraps HD.out.2.2 HD.out.2.1)).mono ?_
   rw [Hk2.out]
   rintro e v12 ⟨rfl, hb⟩
   have HB12 := hJ hb
   clear hb
   go_wp2_with fail
   have HX12 := hJ (bt HX11.out HB12.out)
   clear hHeld
   refine hK.out _ _ (HS10.out _ HX12.out) (fun hHeld => ?_)
   clear hK K
   try simp only [PT]
   refine tq 7 ?_
   try simp only [PT]
   refine tq 8 ?_
   try simp only [PT]
   refine tq 9 ?_
   try simp only [PT]
   refine wpAnyH_done (by kernel_rfl) ?_ _
   clear hHeld
   have HQ1x0w4 := hJ (BX.new HQ1x0w3.out HX12.out)
   obtain ⟨cl13, cl14⟩ := HQ1x0w4.out.c2 0 1 rfl rfl
   have HQ1x1w4 := hJ (BX.new HQ1x1w3.out HX12.out)
   obtain ⟨cl15, cl16⟩ := HQ1x1w4.out.c2 0 1 rfl rfl
   go_wp2_with fail
   clear cl13 cl14 cl15 cl16
   refine (angles_any fx fy tx ty v12 (ang_wraps HD.out.1 HD.out.2.1)).mono ?_
   rw [Hk3.out]
   rintro e w17 ⟨rfl, hb⟩
   have HB17 := hJ hb
   clear hb
   have HC0_5 := hJ (bt (bt (bt (bt HB1.out HB8.out) HB9.out) HX12.out) HB17.out)
   go_wp2
   go_ret2
   exact ⟨by rw [HV.out, HE.out]; first | rfl | exact congrArg (fun z => Ending.returned (.tuple #[.bool z, .int .i64 0])) (by simp <;> omega), HC0_5.out⟩
  ·have HV := hJ (show seB fx fy tx ty dx dy = true by rw [seB, if_pos HE.out, scV, Hk1.out, Hk2.out, Hk3.out, if_neg q3, decide_eq_true q1, decide_eq_true q2]; rfl)
   have HC1_3 := hJ (bt HB8.out HB9.out)
   have HQ1x0w3 := hJ (BX.new HQ1x0.out HC1_3.out)
   have HQ1x2w3 := hJ (BX.new HQ1x2.out HC1_3.out)
   have HQ1x1w3 := hJ (BX.new HQ1x1.out HC1_3.out)
   have HS18 : Hid (∀ w', Below w9.heap.size w9 w' → (fun w' : World => w'.cell? ⟨w.heap.size, 0, none⟩ = some (.int .i64 fx) ∧ w'.cell? ⟨w.heap.size, 1, none⟩ = some (.int .i64 fy) ∧ w'.cell? ⟨w.heap.size + 2, 0, none⟩ = some (.int .i64 dx) ∧ w'.cell? ⟨w.heap.size + 2, 1, none⟩ = some (.int .i64 dy) ∧ w'.cell? ⟨w.heap.size + 1, 0, none⟩ = some (.int .i64 tx) ∧ w'.cell? ⟨w.heap.size + 1, 1, none⟩ = some (.int .i64 ty) ∧ Below w9.heap.size w9 w') w') := hJ (fun w' hb => ⟨(BX.new HQ1x0w3.out hb).cell 0 rfl, (BX.new HQ1x0w3.out hb).cell 1 rfl, (BX.new HQ1x2w3.out hb).cell 0 rfl, (BX.new HQ1x2w3.out hb).cell 1 rfl, (BX.new HQ1x1w3.out hb).cell 0 rfl, (BX.new HQ1x1w3.out hb).cell 1 rfl, hb⟩)
   go_wp2_with fail
   obtain ⟨v18, hv18⟩ := nmz (World.drew w9)
   have HX18 := hJ (show Below w9.heap.size w9 v18 by rw [← hv18]; exact (Below.refl _ _).drew)
   refine wp_region_held_drew (S := (fun w' : World => w'.cell? ⟨w.heap.size, 0, none⟩ = some (.int .i64 fx) ∧ w'.cell? ⟨w.heap.size, 1, none⟩ = some (.int .i64 fy) ∧ w'.cell? ⟨w.heap.size + 2, 0, none⟩ = some (.int .i64 dx) ∧ w'.cell? ⟨w.heap.size + 2, 1, none⟩ = some (.int .i64 dy) ∧ w'.cell? ⟨w.heap.size + 1, 0, none⟩ = some (.int .i64 tx) ∧ w'.cell? ⟨w.heap.size + 1, 1, none⟩ = some (.int .i64 ty) ∧ Below w9.heap.size w9 w')) (by kernel_rfl) ?_ (fun hHeld => ?_)
   ·rw [hv18]
    exact HS18.out _ HX18.out
   rw [hv18] at hHeld ⊢
   clear hv18
   refine tq 0 ?_
   try simp only [PT]
   refine tq 1 ?_
   try simp only [PT]
   refine tq 4 ?_
   try simp only [PT]
   refine tq 5 ?_
   try simp only [PT]
   refine wpAnyH_ready (rs := [2]) (by kernel_rfl) (by simp) ?_
   refine .cons rfl (fun K hK => ?_) .nil
   go_simp
   go_at_call 30
   refine (angles_any fx fy dx dy v18 (ang_wraps HD.out.1 HD.out.2.2)).mono ?_
   rw [Hk1.out]
   rintro e v19 ⟨rfl, hb⟩
   have HB19 := hJ hb
   clear hb
   go_wp2_with fail
   have HX19 := hJ (bt HX18.out HB19.out)
   clear hHeld
   refine hK.out _ _ (HS18.out _ HX19.out) (fun hHeld => ?_)
   clear hK K
   try simp only [PT]
   refine tq 3 ?_
   try simp only [PT]
   refine wpAnyH_ready (rs := [6]) (by kernel_rfl) (by simp) ?_
   refine .cons rfl (fun K hK => ?_) .nil
   go_simp
   go_at_call 30
   refine (angles_any dx dy tx ty v19 (ang_wraps HD.out.2.2 HD.out.2.1)).mono ?_
   rw [Hk2.out]
   rintro e v20 ⟨rfl, hb⟩
   have HB20 := hJ hb
   clear hb
   go_wp2_with fail
   have HX20 := hJ (bt HX19.out HB20.out)
   clear hHeld
   refine hK.out _ _ (HS18.out _ HX20.out) (fun hHeld => ?_)
   clear hK K
   try simp only [PT]
   refine tq 7 ?_
   try simp only [PT]
   refine tq 8 ?_
   try simp only [PT]
   refine tq 9 ?_
   try simp only [PT]
   refine wpAnyH_done (by kernel_rfl) ?_ _
   clear hHeld
   have HQ1x0w4 := hJ (BX.new HQ1x0w3.out HX20.out)
   obtain ⟨cl21, cl22⟩ := HQ1x0w4.out.c2 0 1 rfl rfl
   have HQ1x1w4 := hJ (BX.new HQ1x1w3.out HX20.out)
   obtain ⟨cl23, cl24⟩ := HQ1x1w4.out.c2 0 1 rfl rfl
   go_wp2_with fail
   clear cl21 cl22 cl23 cl24
   refine (angles_any fx fy tx ty v20 (ang_wraps HD.out.1 HD.out.2.1)).mono ?_
   rw [Hk3.out]
   rintro e w25 ⟨rfl, hb⟩
   have HB25 := hJ hb
   clear hb
   have HC0_5 := hJ (bt (bt (bt (bt HB1.out HB8.out) HB9.out) HX20.out) HB25.out)
   go_wp2
   go_ret2
   exact ⟨by rw [HV.out, HE.out]; first | rfl | exact congrArg (fun z => Ending.returned (.tuple #[.bool z, .int .i64 0])) (by simp <;> omega), HC0_5.out⟩
  ·have HV := hJ (show seB fx fy tx ty dx dy = false by rw [seB, if_pos HE.out, scV, Hk1.out, Hk2.out, Hk3.out, if_pos q3, decide_eq_true q1, decide_eq_false q2]; rfl)
   have HC1_3 := hJ (bt HB8.out HB9.out)
   have HQ1x0w3 := hJ (BX.new HQ1x0.out HC1_3.out)
   have HQ1x2w3 := hJ (BX.new HQ1x2.out HC1_3.out)
   have HQ1x1w3 := hJ (BX.new HQ1x1.out HC1_3.out)
   have HS26 : Hid (∀ w', Below w9.heap.size w9 w' → (fun w' : World => w'.cell? ⟨w.heap.size, 0, none⟩ = some (.int .i64 fx) ∧ w'.cell? ⟨w.heap.size, 1, none⟩ = some (.int .i64 fy) ∧ w'.cell? ⟨w.heap.size + 2, 0, none⟩ = some (.int .i64 dx) ∧ w'.cell? ⟨w.heap.size + 2, 1, none⟩ = some (.int .i64 dy) ∧ w'.cell? ⟨w.heap.size + 1, 0, none⟩ = some (.int .i64 tx) ∧ w'.cell? ⟨w.heap.size + 1, 1, none⟩ = some (.int .i64 ty) ∧ Below w9.heap.size w9 w') w') := hJ (fun w' hb => ⟨(BX.new HQ1x0w3.out hb).cell 0 rfl, (BX.new HQ1x0w3.out hb).cell 1 rfl, (BX.new HQ1x2w3.out hb).cell 0 rfl, (BX.new HQ1x2w3.out hb).cell 1 rfl, (BX.new HQ1x1w3.out hb).cell 0 rfl, (BX.new HQ1x1w3.out hb).cell 1 rfl, hb⟩)
   go_wp2_with fail
   obtain ⟨v26, hv26⟩ := nmz (World.drew w9)
   have HX26 := hJ (show Below w9.heap.size w9 v26 by rw [← hv26]; exact (Below.refl _ _).drew)
   refine wp_region_held_drew (S := (fun w' : World => w'.cell? ⟨w.heap.size, 0, none⟩ = some (.int .i64 fx) ∧ w'.cell? ⟨w.heap.size, 1, none⟩ = some (.int .i64 fy) ∧ w'.cell? ⟨w.heap.size + 2, 0, none⟩ = some (.int .i64 dx) ∧ w'.cell? ⟨w.heap.size + 2, 1, none⟩ = some (.int .i64 dy) ∧ w'.cell? ⟨w.heap.size + 1, 0, none⟩ = some (.int .i64 tx) ∧ w'.cell? ⟨w.heap.size + 1, 1, none⟩ = some (.int .i64 ty) ∧ Below w9.heap.size w9 w')) (by kernel_rfl) ?_ (fun hHeld => ?_)
   ·rw [hv26]
    exact HS26.out _ HX26.out
   rw [hv26] at hHeld ⊢
   clear hv26
   refine tq 0 ?_
   try simp only [PT]
   refine tq 1 ?_
   try simp only [PT]
   refine tq 4 ?_
   try simp only [PT]
   refine tq 5 ?_
   try simp only [PT]
   refine wpAnyH_ready (rs := [2]) (by kernel_rfl) (by simp) ?_
   refine .cons rfl (fun K hK => ?_) .nil
   go_simp
   go_at_call 30
   refine (angles_any fx fy dx dy v26 (ang_wraps HD.out.1 HD.out.2.2)).mono ?_
   rw [Hk1.out]
   rintro e v27 ⟨rfl, hb⟩
   have HB27 := hJ hb
   clear hb
   go_wp2_with fail
   have HX27 := hJ (bt HX26.out HB27.out)
   clear hHeld
   refine hK.out _ _ (HS26.out _ HX27.out) (fun hHeld => ?_)
   clear hK K
   try simp only [PT]
   refine tq 3 ?_
   try simp only [PT]
   refine wpAnyH_ready (rs := [6]) (by kernel_rfl) (by simp) ?_
   refine .cons rfl (fun K hK => ?_) .nil
   go_simp
   go_at_call 30
   refine (angles_any dx dy tx ty v27 (ang_wraps HD.out.2.2 HD.out.2.1)).mono ?_
   rw [Hk2.out]
   rintro e v28 ⟨rfl, hb⟩
   have HB28 := hJ hb
   clear hb
   go_wp2_with fail
   have HX28 := hJ (bt HX27.out HB28.out)
   clear hHeld
   refine hK.out _ _ (HS26.out _ HX28.out) (fun hHeld => ?_)
   clear hK K
   try simp only [PT]
   refine tq 7 ?_
   try simp only [PT]
   refine tq 8 ?_
   try simp only [PT]
   refine tq 9 ?_
   try simp only [PT]
   refine wpAnyH_done (by kernel_rfl) ?_ _
   clear hHeld
   have HQ1x0w4 := hJ (BX.new HQ1x0w3.out HX28.out)
   obtain ⟨cl29, cl30⟩ := HQ1x0w4.out.c2 0 1 rfl rfl
   have HQ1x1w4 := hJ (BX.new HQ1x1w3.out HX28.out)
   obtain ⟨cl31, cl32⟩ := HQ1x1w4.out.c2 0 1 rfl rfl
   go_wp2_with fail
   clear cl29 cl30 cl31 cl32
   refine (angles_any fx fy tx ty v28 (ang_wraps HD.out.1 HD.out.2.1)).mono ?_
   rw [Hk3.out]
   rintro e w33 ⟨rfl, hb⟩
   have HB33 := hJ hb
   clear hb
   have HC0_5 := hJ (bt (bt (bt (bt HB1.out HB8.out) HB9.out) HX28.out) HB33.out)
   go_wp2
   go_ret2
   exact ⟨by rw [HV.out, HE.out]; first | rfl | exact congrArg (fun z => Ending.returned (.tuple #[.bool z, .int .i64 0])) (by simp <;> omega), HC0_5.out⟩
  ·have HV := hJ (show seB fx fy tx ty dx dy = true by rw [seB, if_pos HE.out, scV, Hk1.out, Hk2.out, Hk3.out, if_neg q3, decide_eq_true q1, decide_eq_false q2]; rfl)
   have HC1_3 := hJ (bt HB8.out HB9.out)
   have HQ1x0w3 := hJ (BX.new HQ1x0.out HC1_3.out)
   have HQ1x2w3 := hJ (BX.new HQ1x2.out HC1_3.out)
   have HQ1x1w3 := hJ (BX.new HQ1x1.out HC1_3.out)
   have HS34 : Hid (∀ w', Below w9.heap.size w9 w' → (fun w' : World => w'.cell? ⟨w.heap.size, 0, none⟩ = some (.int .i64 fx) ∧ w'.cell? ⟨w.heap.size, 1, none⟩ = some (.int .i64 fy) ∧ w'.cell? ⟨w.heap.size + 2, 0, none⟩ = some (.int .i64 dx) ∧ w'.cell? ⟨w.heap.size + 2, 1, none⟩ = some (.int .i64 dy) ∧ w'.cell? ⟨w.heap.size + 1, 0, none⟩ = some (.int .i64 tx) ∧ w'.cell? ⟨w.heap.size + 1, 1, none⟩ = some (.int .i64 ty) ∧ Below w9.heap.size w9 w') w') := hJ (fun w' hb => ⟨(BX.new HQ1x0w3.out hb).cell 0 rfl, (BX.new HQ1x0w3.out hb).cell 1 rfl, (BX.new HQ1x2w3.out hb).cell 0 rfl, (BX.new HQ1x2w3.out hb).cell 1 rfl, (BX.new HQ1x1w3.out hb).cell 0 rfl, (BX.new HQ1x1w3.out hb).cell 1 rfl, hb⟩)
   go_wp2_with fail
   obtain ⟨v34, hv34⟩ := nmz (World.drew w9)
   have HX34 := hJ (show Below w9.heap.size w9 v34 by rw [← hv34]; exact (Below.refl _ _).drew)
   refine wp_region_held_drew (S := (fun w' : World => w'.cell? ⟨w.heap.size, 0, none⟩ = some (.int .i64 fx) ∧ w'.cell? ⟨w.heap.size, 1, none⟩ = some (.int .i64 fy) ∧ w'.cell? ⟨w.heap.size + 2, 0, none⟩ = some (.int .i64 dx) ∧ w'.cell? ⟨w.heap.size + 2, 1, none⟩ = some (.int .i64 dy) ∧ w'.cell? ⟨w.heap.size + 1, 0, none⟩ = some (.int .i64 tx) ∧ w'.cell? ⟨w.heap.size + 1, 1, none⟩ = some (.int .i64 ty) ∧ Below w9.heap.size w9 w')) (by kernel_rfl) ?_ (fun hHeld => ?_)
   ·rw [hv34]
    exact HS34.out _ HX34.out
   rw [hv34] at hHeld ⊢
   clear hv34
   refine tq 0 ?_
   try simp only [PT]
   refine tq 1 ?_
   try simp only [PT]
   refine tq 4 ?_
   try simp only [PT]
   refine tq 5 ?_
   try simp only [PT]
   refine wpAnyH_ready (rs := [2]) (by kernel_rfl) (by simp) ?_
   refine .cons rfl (fun K hK => ?_) .nil
   go_simp
   go_at_call 30
   refine (angles_any fx fy dx dy v34 (ang_wraps HD.out.1 HD.out.2.2)).mono ?_
   rw [Hk1.out]
   rintro e v35 ⟨rfl, hb⟩
   have HB35 := hJ hb
   clear hb
   go_wp2_with fail
   have HX35 := hJ (bt HX34.out HB35.out)
   clear hHeld
   refine hK.out _ _ (HS34.out _ HX35.out) (fun hHeld => ?_)
   clear hK K
   try simp only [PT]
   refine tq 3 ?_
   try simp only [PT]
   refine wpAnyH_ready (rs := [6]) (by kernel_rfl) (by simp) ?_
   refine .cons rfl (fun K hK => ?_) .nil
   go_simp
   go_at_call 30
   refine (angles_any dx dy tx ty v35 (ang_wraps HD.out.2.2 HD.out.2.1)).mono ?_
   rw [Hk2.out]
   rintro e v36 ⟨rfl, hb⟩
   have HB36 := hJ hb
   clear hb
   go_wp2_with fail
   have HX36 := hJ (bt HX35.out HB36.out)
   clear hHeld
   refine hK.out _ _ (HS34.out _ HX36.out) (fun hHeld => ?_)
   clear hK K
   try simp only [PT]
   refine tq 7 ?_
   try simp only [PT]
   refine tq 8 ?_
   try simp only [PT]
   refine tq 9 ?_
   try simp only [PT]
   refine wpAnyH_done (by kernel_rfl) ?_ _
   clear hHeld
   have HQ1x0w4 := hJ (BX.new HQ1x0w3.out HX36.out)
   obtain ⟨cl37, cl38⟩ := HQ1x0w4.out.c2 0 1 rfl rfl
   have HQ1x1w4 := hJ (BX.new HQ1x1w3.out HX36.out)
   obtain ⟨cl39, cl40⟩ := HQ1x1w4.out.c2 0 1 rfl rfl
   go_wp2_with fail
   clear cl37 cl38 cl39 cl40
   refine (angles_any fx fy tx ty v36 (ang_wraps HD.out.1 HD.out.2.1)).mono ?_
   rw [Hk3.out]
   rintro e w41 ⟨rfl, hb⟩
   have HB41 := hJ hb
   clear hb
   have HC0_5 := hJ (bt (bt (bt (bt HB1.out HB8.out) HB9.out) HX36.out) HB41.out)
   go_wp2
   go_ret2
   exact ⟨by rw [HV.out, HE.out]; first | rfl | exact congrArg (fun z => Ending.returned (.tuple #[.bool z, .int .i64 0])) (by simp <;> omega), HC0_5.out⟩
  ·have HV := hJ (show seB fx fy tx ty dx dy = false by rw [seB, if_pos HE.out, scV, Hk1.out, Hk2.out, Hk3.out, if_pos q3, decide_eq_false q1, decide_eq_true q2]; rfl)
   have HC1_3 := hJ (bt HB8.out HB9.out)
   have HQ1x0w3 := hJ (BX.new HQ1x0.out HC1_3.out)
   have HQ1x2w3 := hJ (BX.new HQ1x2.out HC1_3.out)
   have HQ1x1w3 := hJ (BX.new HQ1x1.out HC1_3.out)
   have HS42 : Hid (∀ w', Below w9.heap.size w9 w' → (fun w' : World => w'.cell? ⟨w.heap.size, 0, none⟩ = some (.int .i64 fx) ∧ w'.cell? ⟨w.heap.size, 1, none⟩ = some (.int .i64 fy) ∧ w'.cell? ⟨w.heap.size + 2, 0, none⟩ = some (.int .i64 dx) ∧ w'.cell? ⟨w.heap.size + 2, 1, none⟩ = some (.int .i64 dy) ∧ w'.cell? ⟨w.heap.size + 1, 0, none⟩ = some (.int .i64 tx) ∧ w'.cell? ⟨w.heap.size + 1, 1, none⟩ = some (.int .i64 ty) ∧ Below w9.heap.size w9 w') w') := hJ (fun w' hb => ⟨(BX.new HQ1x0w3.out hb).cell 0 rfl, (BX.new HQ1x0w3.out hb).cell 1 rfl, (BX.new HQ1x2w3.out hb).cell 0 rfl, (BX.new HQ1x2w3.out hb).cell 1 rfl, (BX.new HQ1x1w3.out hb).cell 0 rfl, (BX.new HQ1x1w3.out hb).cell 1 rfl, hb⟩)
   go_wp2_with fail
   obtain ⟨v42, hv42⟩ := nmz (World.drew w9)
   have HX42 := hJ (show Below w9.heap.size w9 v42 by rw [← hv42]; exact (Below.refl _ _).drew)
   refine wp_region_held_drew (S := (fun w' : World => w'.cell? ⟨w.heap.size, 0, none⟩ = some (.int .i64 fx) ∧ w'.cell? ⟨w.heap.size, 1, none⟩ = some (.int .i64 fy) ∧ w'.cell? ⟨w.heap.size + 2, 0, none⟩ = some (.int .i64 dx) ∧ w'.cell? ⟨w.heap.size + 2, 1, none⟩ = some (.int .i64 dy) ∧ w'.cell? ⟨w.heap.size + 1, 0, none⟩ = some (.int .i64 tx) ∧ w'.cell? ⟨w.heap.size + 1, 1, none⟩ = some (.int .i64 ty) ∧ Below w9.heap.size w9 w')) (by kernel_rfl) ?_ (fun hHeld => ?_)
   ·rw [hv42]
    exact HS42.out _ HX42.out
   rw [hv42] at hHeld ⊢
   clear hv42
   refine tq 0 ?_
   try simp only [PT]
   refine tq 1 ?_
   try simp only [PT]
   refine tq 4 ?_
   try simp only [PT]
   refine tq 5 ?_
   try simp only [PT]
   refine wpAnyH_ready (rs := [2]) (by kernel_rfl) (by simp) ?_
   refine .cons rfl (fun K hK => ?_) .nil
   go_simp
   go_at_call 30
   refine (angles_any fx fy dx dy v42 (ang_wraps HD.out.1 HD.out.2.2)).mono ?_
   rw [Hk1.out]
   rintro e v43 ⟨rfl, hb⟩
   have HB43 := hJ hb
   clear hb
   go_wp2_with fail
   have HX43 := hJ (bt HX42.out HB43.out)
   clear hHeld
   refine hK.out _ _ (HS42.out _ HX43.out) (fun hHeld => ?_)
   clear hK K
   try simp only [PT]
   refine tq 3 ?_
   try simp only [PT]
   refine wpAnyH_ready (rs := [6]) (by kernel_rfl) (by simp) ?_
   refine .cons rfl (fun K hK => ?_) .nil
   go_simp
   go_at_call 30
   refine (angles_any dx dy tx ty v43 (ang_wraps HD.out.2.2 HD.out.2.1)).mono ?_
   rw [Hk2.out]
   rintro e v44 ⟨rfl, hb⟩
   have HB44 := hJ hb
   clear hb
   go_wp2_with fail
   have HX44 := hJ (bt HX43.out HB44.out)
   clear hHeld
   refine hK.out _ _ (HS42.out _ HX44.out) (fun hHeld => ?_)
   clear hK K
   try simp only [PT]
   refine tq 7 ?_
   try simp only [PT]
   refine tq 8 ?_
   try simp only [PT]
   refine tq 9 ?_
   try simp only [PT]
   refine wpAnyH_done (by kernel_rfl) ?_ _
   clear hHeld
   have HQ1x0w4 := hJ (BX.new HQ1x0w3.out HX44.out)
   obtain ⟨cl45, cl46⟩ := HQ1x0w4.out.c2 0 1 rfl rfl
   have HQ1x1w4 := hJ (BX.new HQ1x1w3.out HX44.out)
   obtain ⟨cl47, cl48⟩ := HQ1x1w4.out.c2 0 1 rfl rfl
   go_wp2_with fail
   clear cl45 cl46 cl47 cl48
   refine (angles_any fx fy tx ty v44 (ang_wraps HD.out.1 HD.out.2.1)).mono ?_
   rw [Hk3.out]
   rintro e w49 ⟨rfl, hb⟩
   have HB49 := hJ hb
   clear hb
   have HC0_5 := hJ (bt (bt (bt (bt HB1.out HB8.out) HB9.out) HX44.out) HB49.out)
   go_wp2
   go_ret2
   exact ⟨by rw [HV.out, HE.out]; first | rfl | exact congrArg (fun z => Ending.returned (.tuple #[.bool z, .int .i64 0])) (by simp <;> omega), HC0_5.out⟩
  ·have HV := hJ (show seB fx fy tx ty dx dy = true by rw [seB, if_pos HE.out, scV, Hk1.out, Hk2.out, Hk3.out, if_neg q3, decide_eq_false q1, decide_eq_true q2]; rfl)
   have HC1_3 := hJ (bt HB8.out HB9.out)
   have HQ1x0w3 := hJ (BX.new HQ1x0.out HC1_3.out)
   have HQ1x2w3 := hJ (BX.new HQ1x2.out HC1_3.out)
   have HQ1x1w3 := hJ (BX.new HQ1x1.out HC1_3.out)
   have HS50 : Hid (∀ w', Below w9.heap.size w9 w' → (fun w' : World => w'.cell? ⟨w.heap.size, 0, none⟩ = some (.int .i64 fx) ∧ w'.cell? ⟨w.heap.size, 1, none⟩ = some (.int .i64 fy) ∧ w'.cell? ⟨w.heap.size + 2, 0, none⟩ = some (.int .i64 dx) ∧ w'.cell? ⟨w.heap.size + 2, 1, none⟩ = some (.int .i64 dy) ∧ w'.cell? ⟨w.heap.size + 1, 0, none⟩ = some (.int .i64 tx) ∧ w'.cell? ⟨w.heap.size + 1, 1, none⟩ = some (.int .i64 ty) ∧ Below w9.heap.size w9 w') w') := hJ (fun w' hb => ⟨(BX.new HQ1x0w3.out hb).cell 0 rfl, (BX.new HQ1x0w3.out hb).cell 1 rfl, (BX.new HQ1x2w3.out hb).cell 0 rfl, (BX.new HQ1x2w3.out hb).cell 1 rfl, (BX.new HQ1x1w3.out hb).cell 0 rfl, (BX.new HQ1x1w3.out hb).cell 1 rfl, hb⟩)
   go_wp2_with fail
   obtain ⟨v50, hv50⟩ := nmz (World.drew w9)
   have HX50 := hJ (show Below w9.heap.size w9 v50 by rw [← hv50]; exact (Below.refl _ _).drew)
   refine wp_region_held_drew (S := (fun w' : World => w'.cell? ⟨w.heap.size, 0, none⟩ = some (.int .i64 fx) ∧ w'.cell? ⟨w.heap.size, 1, none⟩ = some (.int .i64 fy) ∧ w'.cell? ⟨w.heap.size + 2, 0, none⟩ = some (.int .i64 dx) ∧ w'.cell? ⟨w.heap.size + 2, 1, none⟩ = some (.int .i64 dy) ∧ w'.cell? ⟨w.heap.size + 1, 0, none⟩ = some (.int .i64 tx) ∧ w'.cell? ⟨w.heap.size + 1, 1, none⟩ = some (.int .i64 ty) ∧ Below w9.heap.size w9 w')) (by kernel_rfl) ?_ (fun hHeld => ?_)
   ·rw [hv50]
    exact HS50.out _ HX50.out
   rw [hv50] at hHeld ⊢
   clear hv50
   refine tq 0 ?_
   try simp only [PT]
   refine tq 1 ?_
   try simp only [PT]
   refine tq 4 ?_
   try simp only [PT]
   refine tq 5 ?_
   try simp only [PT]
   refine wpAnyH_ready (rs := [2]) (by kernel_rfl) (by simp) ?_
   refine .cons rfl (fun K hK => ?_) .nil
   go_simp
   go_at_call 30
   refine (angles_any fx fy dx dy v50 (ang_wraps HD.out.1 HD.out.2.2)).mono ?_
   rw [Hk1.out]
   rintro e v51 ⟨rfl, hb⟩
   have HB51 := hJ hb
   clear hb
   go_wp2_with fail
   have HX51 := hJ (bt HX50.out HB51.out)
   clear hHeld
   refine hK.out _ _ (HS50.out _ HX51.out) (fun hHeld => ?_)
   clear hK K
   try simp only [PT]
   refine tq 3 ?_
   try simp only [PT]
   refine wpAnyH_ready (rs := [6]) (by kernel_rfl) (by simp) ?_
   refine .cons rfl (fun K hK => ?_) .nil
   go_simp
   go_at_call 30
   refine (angles_any dx dy tx ty v51 (ang_wraps HD.out.2.2 HD.out.2.1)).mono ?_
   rw [Hk2.out]
   rintro e v52 ⟨rfl, hb⟩
   have HB52 := hJ hb
   clear hb
   go_wp2_with fail
   have HX52 := hJ (bt HX51.out HB52.out)
   clear hHeld
   refine hK.out _ _ (HS50.out _ HX52.out) (fun hHeld => ?_)
   clear hK K
   try simp only [PT]
   refine tq 7 ?_
   try simp only [PT]
   refine tq 8 ?_
   try simp only [PT]
   refine tq 9 ?_
   try simp only [PT]
   refine wpAnyH_done (by kernel_rfl) ?_ _
   clear hHeld
   have HQ1x0w4 := hJ (BX.new HQ1x0w3.out HX52.out)
   obtain ⟨cl53, cl54⟩ := HQ1x0w4.out.c2 0 1 rfl rfl
   have HQ1x1w4 := hJ (BX.new HQ1x1w3.out HX52.out)
   obtain ⟨cl55, cl56⟩ := HQ1x1w4.out.c2 0 1 rfl rfl
   go_wp2_with fail
   clear cl53 cl54 cl55 cl56
   refine (angles_any fx fy tx ty v52 (ang_wraps HD.out.1 HD.out.2.1)).mono ?_
   rw [Hk3.out]
   rintro e w57 ⟨rfl, hb⟩
   have HB57 := hJ hb
   clear hb
   have HC0_5 := hJ (bt (bt (bt (bt HB1.out HB8.out) HB9.out) HX52.out) HB57.out)
   go_wp2
   go_ret2
   exact ⟨by rw [HV.out, HE.out]; first | rfl | exact congrArg (fun z => Ending.returned (.tuple #[.bool z, .int .i64 0])) (by simp <;> omega), HC0_5.out⟩
  ·have HV := hJ (show seB fx fy tx ty dx dy = false by rw [seB, if_pos HE.out, scV, Hk1.out, Hk2.out, Hk3.out, if_pos q3, decide_eq_false q1, decide_eq_false q2]; rfl)
   have HC1_3 := hJ (bt HB8.out HB9.out)
   have HQ1x0w3 := hJ (BX.new HQ1x0.out HC1_3.out)
   have HQ1x2w3 := hJ (BX.new HQ1x2.out HC1_3.out)
   have HQ1x1w3 := hJ (BX.new HQ1x1.out HC1_3.out)
   have HS58 : Hid (∀ w', Below w9.heap.size w9 w' → (fun w' : World => w'.cell? ⟨w.heap.size, 0, none⟩ = some (.int .i64 fx) ∧ w'.cell? ⟨w.heap.size, 1, none⟩ = some (.int .i64 fy) ∧ w'.cell? ⟨w.heap.size + 2, 0, none⟩ = some (.int .i64 dx) ∧ w'.cell? ⟨w.heap.size + 2, 1, none⟩ = some (.int .i64 dy) ∧ w'.cell? ⟨w.heap.size + 1, 0, none⟩ = some (.int .i64 tx) ∧ w'.cell? ⟨w.heap.size + 1, 1, none⟩ = some (.int .i64 ty) ∧ Below w9.heap.size w9 w') w') := hJ (fun w' hb => ⟨(BX.new HQ1x0w3.out hb).cell 0 rfl, (BX.new HQ1x0w3.out hb).cell 1 rfl, (BX.new HQ1x2w3.out hb).cell 0 rfl, (BX.new HQ1x2w3.out hb).cell 1 rfl, (BX.new HQ1x1w3.out hb).cell 0 rfl, (BX.new HQ1x1w3.out hb).cell 1 rfl, hb⟩)
   go_wp2_with fail
   obtain ⟨v58, hv58⟩ := nmz (World.drew w9)
   have HX58 := hJ (show Below w9.heap.size w9 v58 by rw [← hv58]; exact (Below.refl _ _).drew)
   refine wp_region_held_drew (S := (fun w' : World => w'.cell? ⟨w.heap.size, 0, none⟩ = some (.int .i64 fx) ∧ w'.cell? ⟨w.heap.size, 1, none⟩ = some (.int .i64 fy) ∧ w'.cell? ⟨w.heap.size + 2, 0, none⟩ = some (.int .i64 dx) ∧ w'.cell? ⟨w.heap.size + 2, 1, none⟩ = some (.int .i64 dy) ∧ w'.cell? ⟨w.heap.size + 1, 0, none⟩ = some (.int .i64 tx) ∧ w'.cell? ⟨w.heap.size + 1, 1, none⟩ = some (.int .i64 ty) ∧ Below w9.heap.size w9 w')) (by kernel_rfl) ?_ (fun hHeld => ?_)
   ·rw [hv58]
    exact HS58.out _ HX58.out
   rw [hv58] at hHeld ⊢
   clear hv58
   refine tq 0 ?_
   try simp only [PT]
   refine tq 1 ?_
   try simp only [PT]
   refine tq 4 ?_
   try simp only [PT]
   refine tq 5 ?_
   try simp only [PT]
   refine wpAnyH_ready (rs := [2]) (by kernel_rfl) (by simp) ?_
   refine .cons rfl (fun K hK => ?_) .nil
   go_simp
   go_at_call 30
   refine (angles_any fx fy dx dy v58 (ang_wraps HD.out.1 HD.out.2.2)).mono ?_
   rw [Hk1.out]
   rintro e v59 ⟨rfl, hb⟩
   have HB59 := hJ hb
   clear hb
   go_wp2_with fail
   have HX59 := hJ (bt HX58.out HB59.out)
   clear hHeld
   refine hK.out _ _ (HS58.out _ HX59.out) (fun hHeld => ?_)
   clear hK K
   try simp only [PT]
   refine tq 3 ?_
   try simp only [PT]
   refine wpAnyH_ready (rs := [6]) (by kernel_rfl) (by simp) ?_
   refine .cons rfl (fun K hK => ?_) .nil
   go_simp
   go_at_call 30
   refine (angles_any dx dy tx ty v59 (ang_wraps HD.out.2.2 HD.out.2.1)).mono ?_
   rw [Hk2.out]
   rintro e v60 ⟨rfl, hb⟩
   have HB60 := hJ hb
   clear hb
   go_wp2_with fail
   have HX60 := hJ (bt HX59.out HB60.out)
   clear hHeld
   refine hK.out _ _ (HS58.out _ HX60.out) (fun hHeld => ?_)
   clear hK K
   try simp only [PT]
   refine tq 7 ?_
   try simp only [PT]
   refine tq 8 ?_
   try simp only [PT]
   refine tq 9 ?_
   try simp only [PT]
   refine wpAnyH_done (by kernel_rfl) ?_ _
   clear hHeld
   have HQ1x0w4 := hJ (BX.new HQ1x0w3.out HX60.out)
   obtain ⟨cl61, cl62⟩ := HQ1x0w4.out.c2 0 1 rfl rfl
   have HQ1x1w4 := hJ (BX.new HQ1x1w3.out HX60.out)
   obtain ⟨cl63, cl64⟩ := HQ1x1w4.out.c2 0 1 rfl rfl
   go_wp2_with fail
   clear cl61 cl62 cl63 cl64
   refine (angles_any fx fy tx ty v60 (ang_wraps HD.out.1 HD.out.2.1)).mono ?_
   rw [Hk3.out]
   rintro e w65 ⟨rfl, hb⟩
   have HB65 := hJ hb
   clear hb
   have HC0_5 := hJ (bt (bt (bt (bt HB1.out HB8.out) HB9.out) HX60.out) HB65.out)
   go_wp2
   go_ret2
   exact ⟨by rw [HV.out, HE.out]; first | rfl | exact congrArg (fun z => Ending.returned (.tuple #[.bool z, .int .i64 0])) (by simp <;> omega), HC0_5.out⟩
  ·have HV := hJ (show seB fx fy tx ty dx dy = false by rw [seB, if_pos HE.out, scV, Hk1.out, Hk2.out, Hk3.out, if_neg q3, decide_eq_false q1, decide_eq_false q2]; rfl)
   have HC1_3 := hJ (bt HB8.out HB9.out)
   have HQ1x0w3 := hJ (BX.new HQ1x0.out HC1_3.out)
   have HQ1x2w3 := hJ (BX.new HQ1x2.out HC1_3.out)
   have HQ1x1w3 := hJ (BX.new HQ1x1.out HC1_3.out)
   have HS66 : Hid (∀ w', Below w9.heap.size w9 w' → (fun w' : World => w'.cell? ⟨w.heap.size, 0, none⟩ = some (.int .i64 fx) ∧ w'.cell? ⟨w.heap.size, 1, none⟩ = some (.int .i64 fy) ∧ w'.cell? ⟨w.heap.size + 2, 0, none⟩ = some (.int .i64 dx) ∧ w'.cell? ⟨w.heap.size + 2, 1, none⟩ = some (.int .i64 dy) ∧ w'.cell? ⟨w.heap.size + 1, 0, none⟩ = some (.int .i64 tx) ∧ w'.cell? ⟨w.heap.size + 1, 1, none⟩ = some (.int .i64 ty) ∧ Below w9.heap.size w9 w') w') := hJ (fun w' hb => ⟨(BX.new HQ1x0w3.out hb).cell 0 rfl, (BX.new HQ1x0w3.out hb).cell 1 rfl, (BX.new HQ1x2w3.out hb).cell 0 rfl, (BX.new HQ1x2w3.out hb).cell 1 rfl, (BX.new HQ1x1w3.out hb).cell 0 rfl, (BX.new HQ1x1w3.out hb).cell 1 rfl, hb⟩)
   go_wp2_with fail
   obtain ⟨v66, hv66⟩ := nmz (World.drew w9)
   have HX66 := hJ (show Below w9.heap.size w9 v66 by rw [← hv66]; exact (Below.refl _ _).drew)
   refine wp_region_held_drew (S := (fun w' : World => w'.cell? ⟨w.heap.size, 0, none⟩ = some (.int .i64 fx) ∧ w'.cell? ⟨w.heap.size, 1, none⟩ = some (.int .i64 fy) ∧ w'.cell? ⟨w.heap.size + 2, 0, none⟩ = some (.int .i64 dx) ∧ w'.cell? ⟨w.heap.size + 2, 1, none⟩ = some (.int .i64 dy) ∧ w'.cell? ⟨w.heap.size + 1, 0, none⟩ = some (.int .i64 tx) ∧ w'.cell? ⟨w.heap.size + 1, 1, none⟩ = some (.int .i64 ty) ∧ Below w9.heap.size w9 w')) (by kernel_rfl) ?_ (fun hHeld => ?_)
   ·rw [hv66]
    exact HS66.out _ HX66.out
   rw [hv66] at hHeld ⊢
   clear hv66
   refine tq 0 ?_
   try simp only [PT]
   refine tq 1 ?_
   try simp only [PT]
   refine tq 4 ?_
   try simp only [PT]
   refine tq 5 ?_
   try simp only [PT]
   refine wpAnyH_ready (rs := [2]) (by kernel_rfl) (by simp) ?_
   refine .cons rfl (fun K hK => ?_) .nil
   go_simp
   go_at_call 30
   refine (angles_any fx fy dx dy v66 (ang_wraps HD.out.1 HD.out.2.2)).mono ?_
   rw [Hk1.out]
   rintro e v67 ⟨rfl, hb⟩
   have HB67 := hJ hb
   clear hb
   go_wp2_with fail
   have HX67 := hJ (bt HX66.out HB67.out)
   clear hHeld
   refine hK.out _ _ (HS66.out _ HX67.out) (fun hHeld => ?_)
   clear hK K
   try simp only [PT]
   refine tq 3 ?_
   try simp only [PT]
   refine wpAnyH_ready (rs := [6]) (by kernel_rfl) (by simp) ?_
   refine .cons rfl (fun K hK => ?_) .nil
   go_simp
   go_at_call 30
   refine (angles_any dx dy tx ty v67 (ang_wraps HD.out.2.2 HD.out.2.1)).mono ?_
   rw [Hk2.out]
   rintro e v68 ⟨rfl, hb⟩
   have HB68 := hJ hb
   clear hb
   go_wp2_with fail
   have HX68 := hJ (bt HX67.out HB68.out)
   clear hHeld
   refine hK.out _ _ (HS66.out _ HX68.out) (fun hHeld => ?_)
   clear hK K
   try simp only [PT]
   refine tq 7 ?_
   try simp only [PT]
   refine tq 8 ?_
   try simp only [PT]
   refine tq 9 ?_
   try simp only [PT]
   refine wpAnyH_done (by kernel_rfl) ?_ _
   clear hHeld
   have HQ1x0w4 := hJ (BX.new HQ1x0w3.out HX68.out)
   obtain ⟨cl69, cl70⟩ := HQ1x0w4.out.c2 0 1 rfl rfl
   have HQ1x1w4 := hJ (BX.new HQ1x1w3.out HX68.out)
   obtain ⟨cl71, cl72⟩ := HQ1x1w4.out.c2 0 1 rfl rfl
   go_wp2_with fail
   clear cl69 cl70 cl71 cl72
   refine (angles_any fx fy tx ty v68 (ang_wraps HD.out.1 HD.out.2.1)).mono ?_
   rw [Hk3.out]
   rintro e w73 ⟨rfl, hb⟩
   have HB73 := hJ hb
   clear hb
   have HC0_5 := hJ (bt (bt (bt (bt HB1.out HB8.out) HB9.out) HX68.out) HB73.out)
   go_wp2
   go_ret2
   exact ⟨by rw [HV.out, HE.out]; first | rfl | exact congrArg (fun z => Ending.returned (.tuple #[.bool z, .int .i64 0])) (by simp <;> omega), HC0_5.out⟩
 ·have hEz : (E == 0) = false := by simp [hE0]
  have HV := hJ (show seB fx fy tx ty dx dy = false from if_neg (by rw [HE.out]; exact hE0))
  clear hE0
  have HC0_3 := hJ (bt (bt HB1.out HB8.out) HB9.out)
  go_wp2
  go_ret2
  exact ⟨by rw [HV.out, HE.out]; first | rfl | exact congrArg (fun z => Ending.returned (.tuple #[.bool z, .int .i64 0])) (by simp <;> omega), HC0_3.out⟩
set_option maxRecDepth 100000 in
set_option maxHeartbeats 1600000 in
theorem sideof_any (ax ay bx by' cx cy : Int) (w : World) :
  Calls Try.prog 11 #[.agg #[.int .i64 ax, .int .i64 ay], .agg #[.int .i64 bx, .int .i64 by'], .agg #[.int .i64 cx, .int .i64 cy]] w fun e w' => e = .returned (.tuple #[.int .i64 (soV ax ay bx by' cx cy), .int .i64 (soE ax ay bx by' cx cy)]) ∧ Below w.heap.size w w' := by
 obtain ⟨E, hE⟩ := nmz (soE ax ay bx by' cx cy)
 have HE := hJ hE
 clear hE
 obtain ⟨x1, hx1⟩ := nmz (((w.alloc (.cells #[.int .i64 ax, .int .i64 ay] 25)).alloc (.cells #[.int .i64 bx, .int .i64 by'] 25)).alloc (.cells #[.int .i64 cx, .int .i64 cy] 25))
 have HB1 := hJ (show Below w.heap.size w x1 by rw [← hx1]; exact ((((Below.refl _ _).alloc (Nat.le_refl _) _).alloc (by simp only [World.size_alloc]; omega) _).alloc (by simp only [World.size_alloc]; omega) _))
 have HQ1x0 := hJ (show BX 25 x1 w.heap.size #[.int .i64 ax, .int .i64 ay] by rw [← hx1]; exact (((BX.at rfl).alloc _).alloc _))
 have HG1x0 := hJ (show w.heap.size ≤ w.heap.size by omega)
 have HL1x0 := hJ (show w.heap.size < x1.heap.size from HQ1x0.out.lt)
 have HQ1x1 := hJ (show BX 25 x1 (w.heap.size + 1) #[.int .i64 bx, .int .i64 by'] by rw [← hx1]; exact ((BX.at (by simp only [World.size_alloc])).alloc _))
 have HG1x1 := hJ (show w.heap.size ≤ w.heap.size + 1 by omega)
 have HL1x1 := hJ (show w.heap.size + 1 < x1.heap.size from HQ1x1.out.lt)
 have HQ1x2 := hJ (show BX 25 x1 (w.heap.size + 2) #[.int .i64 cx, .int .i64 cy] by rw [← hx1]; exact (BX.at (by simp only [World.size_alloc])))
 have HG1x2 := hJ (show w.heap.size ≤ w.heap.size + 2 by omega)
 have HL1x2 := hJ (show w.heap.size + 2 < x1.heap.size from HQ1x2.out.lt)
 obtain ⟨cl2, cl3⟩ := HQ1x0.out.c2 0 1 rfl rfl
 obtain ⟨cl4, cl5⟩ := HQ1x1.out.c2 0 1 rfl rfl
 obtain ⟨cl6, cl7⟩ := HQ1x2.out.c2 0 1 rfl rfl
 obtain ⟨x8, hx8⟩ := nmz (x1.alloc (.cells #[.int .i64 ax, .int .i64 ay, .int .i64 bx, .int .i64 by', .int .i64 cx, .int .i64 cy] 25))
 have HB8 := hJ (show Below x1.heap.size x1 x8 by rw [← hx8]; exact ((Below.refl _ _).alloc (Nat.le_refl _) _))
 have HQ8x0 := hJ (show BX 25 x8 x1.heap.size #[.int .i64 ax, .int .i64 ay, .int .i64 bx, .int .i64 by', .int .i64 cx, .int .i64 cy] by rw [← hx8]; exact (BX.at rfl))
 have HG8x0 := hJ (show x1.heap.size ≤ x1.heap.size by omega)
 have HL8x0 := hJ (show x1.heap.size < x8.heap.size from HQ8x0.out.lt)
 go_enter Try.func11, Try.ntmps11
 go_wp2_with fail
 clear hx1 cl2 cl3 cl4 cl5 cl6 cl7 hx8
 refine (valids_any [(ax, ay), (bx, by'), (cx, cy)] 3 x1.heap.size x8 rfl (by decide) HQ8x0.out).mono ?_
 rw [show fsE vdP [(ax, ay), (bx, by'), (cx, cy)] = E from HE.out]
 rintro e w9 ⟨rfl, hb⟩
 have HB9 := hJ hb
 clear hb
 by_cases hE0 : E = 0
 ·subst hE0
  have HG := hJ (g3_ok (vd_nk (fs_cons HE.out).1) (vd_nk (fs_two (fs_cons HE.out).2).1) (vd_nk (fs_two (fs_cons HE.out).2).2))
  have HV := hJ (show soV ax ay bx by' cx cy = sdV ax ay bx by' cx cy from if_pos HE.out)
  have HC1_3 := hJ (bt HB8.out HB9.out)
  have HQ1x0w3 := hJ (BX.new HQ1x0.out HC1_3.out)
  obtain ⟨cl10, cl11⟩ := HQ1x0w3.out.c2 0 1 rfl rfl
  have HQ1x1w3 := hJ (BX.new HQ1x1.out HC1_3.out)
  obtain ⟨cl12, cl13⟩ := HQ1x1w3.out.c2 0 1 rfl rfl
  have HQ1x2w3 := hJ (BX.new HQ1x2.out HC1_3.out)
  obtain ⟨cl14, cl15⟩ := HQ1x2w3.out.c2 0 1 rfl rfl
  go_wp2_with fail
  clear cl10 cl11 cl12 cl13 cl14 cl15
  refine (gridside_any ax ay bx by' cx cy w9 HG.out).mono ?_
  rintro e w16 ⟨rfl, hb⟩
  have HB16 := hJ hb
  clear hb
  have HC0_4 := hJ (bt (bt (bt HB1.out HB8.out) HB9.out) HB16.out)
  go_wp2
  go_ret2
  exact ⟨by rw [HV.out, HE.out] <;> rfl, HC0_4.out⟩
 ·have hEz : (E == 0) = false := by simp [hE0]
  have HV := hJ (show soV ax ay bx by' cx cy = 0 from if_neg (by rw [HE.out]; exact hE0))
  clear hE0
  have HC0_3 := hJ (bt (bt HB1.out HB8.out) HB9.out)
  go_wp2
  go_ret2
  exact ⟨by rw [HV.out, HE.out] <;> rfl, HC0_3.out⟩
end Go.Proofs.Ytdamadkhbeonaaa
