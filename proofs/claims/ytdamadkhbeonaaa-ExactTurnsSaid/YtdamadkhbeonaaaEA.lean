/- Contracts: away, bend, half, compareAngles, gridSide, directions, valid. Conditions: as each statement has them. -/
import Derived.Test.YtdamadkhbeonaaaAK
import Derived.Test.YtdamadkhbeonaaaEM
namespace Go.Proofs.Ytdamadkhbeonaaa
open Go.RowKit
attribute [local go_sem ↓] Go.wp_at_zero Go.wp_at_succ
set_option linter.unusedVariables false
set_option linter.unusedSimpArgs false
theorem validp_any (x y : Int) (w : World) :
  Calls Try.prog 32 #[.agg #[.int .i64 x, .int .i64 y]] w fun e w' => e = .returned (.int .i64 (vdP (x, y))) ∧ Below w.heap.size w w' := valid_any x y w
set_option maxRecDepth 100000 in
set_option maxHeartbeats 1600000 in
theorem away_any (ax ay bx by' : Int) (w : World) (h1 : I6 (bx - ax)) (h2 : I6 (by' - ay)) :
  Calls Try.prog 34 #[.agg #[.int .i64 ax, .int .i64 ay], .agg #[.int .i64 bx, .int .i64 by']] w fun e w' => e = .returned (.agg #[.int .i64 (bx - ax), .int .i64 (by' - ay)]) ∧ Below w.heap.size w w' := by
 have HA := hJ h1
 have HB := hJ h2
 clear h1 h2
 obtain ⟨x1, hx1⟩ := nmz (((w.alloc (.cells #[.int .i64 ax, .int .i64 ay] 25)).alloc (.cells #[.int .i64 bx, .int .i64 by'] 25)).alloc (.cells #[.int .i64 0, .int .i64 0] 25))
 have HB1 := hJ (show Below w.heap.size w x1 by rw [← hx1]; exact ((((Below.refl _ _).alloc (Nat.le_refl _) _).alloc (by simp only [World.size_alloc]; omega) _).alloc (by simp only [World.size_alloc]; omega) _))
 have HQ1x0 := hJ (show BX 25 x1 w.heap.size #[.int .i64 ax, .int .i64 ay] by rw [← hx1]; exact (((BX.at rfl).alloc _).alloc _))
 have HG1x0 := hJ (show w.heap.size ≤ w.heap.size by omega)
 have HL1x0 := hJ (show w.heap.size < x1.heap.size from HQ1x0.out.lt)
 have HQ1x1 := hJ (show BX 25 x1 (w.heap.size + 1) #[.int .i64 bx, .int .i64 by'] by rw [← hx1]; exact ((BX.at (by simp only [World.size_alloc])).alloc _))
 have HG1x1 := hJ (show w.heap.size ≤ w.heap.size + 1 by omega)
 have HL1x1 := hJ (show w.heap.size + 1 < x1.heap.size from HQ1x1.out.lt)
 have HQ1x2 := hJ (show BX 25 x1 (w.heap.size + 2) #[.int .i64 0, .int .i64 0] by rw [← hx1]; exact (BX.at (by simp only [World.size_alloc])))
 have HG1x2 := hJ (show w.heap.size ≤ w.heap.size + 2 by omega)
 have HL1x2 := hJ (show w.heap.size + 2 < x1.heap.size from HQ1x2.out.lt)
 have cl2 := HQ1x1.out.cell 0 rfl
 have cl3 := HQ1x0.out.cell 0 rfl
 have ew1_4 : IntKind.i64.wrap (bx - ax) = bx - ax := i6_wrap HA.out
 have cl4 := HQ1x1.out.cell 1 rfl
 have cl5 := HQ1x0.out.cell 1 rfl
 have ew1_9 : IntKind.i64.wrap (by' - ay) = by' - ay := i6_wrap HB.out
 have fz6_0 := HQ1x2.out.frozen 0
 have fc6_0 := HQ1x2.out.cell 0 rfl
 have fz6_1 := HQ1x2.out.frozen 1
 have fc6_1 := HQ1x2.out.cell 1 rfl
 obtain ⟨x6, hx6⟩ := nmz (World.setCell (World.setCell x1 ⟨w.heap.size + 2, 0, none⟩ (.int .i64 (bx - ax))) ⟨w.heap.size + 2, 1, none⟩ (.int .i64 (by' - ay)))
 have HE6 := hJ (show sto x1 (w.heap.size + 2) 0 [.int .i64 (bx - ax), .int .i64 (by' - ay)] = x6 from hx6)
 have HQ6s := hJ (show BX 25 x6 (w.heap.size + 2) #[.int .i64 (bx - ax), .int .i64 (by' - ay)] by rw [← HE6.out]; exact BX.put HQ1x2.out _ _)
 have HC0_2 := hJ (show Below w.heap.size w x6 by rw [← HE6.out]; exact below_sto HB1.out HG1x2.out _ _)
 go_enter Try.func34, Try.ntmps34
 go_wp2
 clear hx1 cl2 cl3 ew1_4 cl4 cl5 ew1_9 fz6_0 fc6_0 fz6_1 fc6_1 hx6
 exact bodyPost_ret (results_cell_row rfl _ _ _ _ _ _ _ rfl HQ6s.out Try.underlying25 rfl G_size) rfl ⟨rfl, HC0_2.out⟩
set_option maxRecDepth 100000 in
set_option maxHeartbeats 1600000 in
theorem bend_any (ax ay bx by' : Int) (w : World) (h1 : I6 (ax * by')) (h2 : I6 (ay * bx)) :
  Calls Try.prog 33 #[.agg #[.int .i64 ax, .int .i64 ay], .agg #[.int .i64 bx, .int .i64 by']] w fun e w' => e = .returned (.int .i64 (cmpI (ax * by') (ay * bx))) ∧ Below w.heap.size w w' := by
 have HA := hJ h1
 have HB := hJ h2
 clear h1 h2
 obtain ⟨x1, hx1⟩ := nmz ((w.alloc (.cells #[.int .i64 ax, .int .i64 ay] 25)).alloc (.cells #[.int .i64 bx, .int .i64 by'] 25))
 have HB1 := hJ (show Below w.heap.size w x1 by rw [← hx1]; exact (((Below.refl _ _).alloc (Nat.le_refl _) _).alloc (by simp only [World.size_alloc]; omega) _))
 have HQ1x0 := hJ (show BX 25 x1 w.heap.size #[.int .i64 ax, .int .i64 ay] by rw [← hx1]; exact ((BX.at rfl).alloc _))
 have HG1x0 := hJ (show w.heap.size ≤ w.heap.size by omega)
 have HL1x0 := hJ (show w.heap.size < x1.heap.size from HQ1x0.out.lt)
 have HQ1x1 := hJ (show BX 25 x1 (w.heap.size + 1) #[.int .i64 bx, .int .i64 by'] by rw [← hx1]; exact (BX.at (by simp only [World.size_alloc])))
 have HG1x1 := hJ (show w.heap.size ≤ w.heap.size + 1 by omega)
 have HL1x1 := hJ (show w.heap.size + 1 < x1.heap.size from HQ1x1.out.lt)
 have cl2 := HQ1x0.out.cell 0 rfl
 have cl3 := HQ1x1.out.cell 1 rfl
 have ew1_4 : IntKind.i64.wrap (ax * by') = ax * by' := i6_wrap HA.out
 have cl4 := HQ1x0.out.cell 1 rfl
 have cl5 := HQ1x1.out.cell 0 rfl
 have ew1_9 : IntKind.i64.wrap (ay * bx) = ay * bx := i6_wrap HB.out
 go_enter Try.func33, Try.ntmps33
 go_wp2_with fail
 clear hx1 cl2 cl3 ew1_4 cl4 cl5 ew1_9
 refine (cmpi_any (ax * by') (ay * bx) (cmpI (ax * by') (ay * bx)) x1 (cmpI_is _ _)).mono ?_
 rintro e w6 ⟨rfl, rfl⟩
 go_wp2
 go_ret
 exact ⟨rfl, HB1.out⟩
set_option maxRecDepth 100000 in
set_option maxHeartbeats 1600000 in
theorem half_any (x y : Int) (w : World) :
  Calls Try.prog 50 #[.agg #[.int .i64 x, .int .i64 y]] w fun e w' => e = .returned (.int .i64 (halfV x y)) ∧ Below w.heap.size w w' := by
 rcases (show 0 < y ∨ (y = 0 ∧ 0 < x) ∨ (y = 0 ∧ ¬ 0 < x) ∨ y < 0 by omega) with q | ⟨rfl, q⟩ | ⟨rfl, q⟩ | q
 ·have HV := hJ (show halfV x y = 0 from if_pos (.inl q))
  obtain ⟨x1, hx1⟩ := nmz (w.alloc (.cells #[.int .i64 x, .int .i64 y] 25))
  have HB1 := hJ (show Below w.heap.size w x1 by rw [← hx1]; exact ((Below.refl _ _).alloc (Nat.le_refl _) _))
  have HQ1x0 := hJ (show BX 25 x1 w.heap.size #[.int .i64 x, .int .i64 y] by rw [← hx1]; exact (BX.at rfl))
  have HG1x0 := hJ (show w.heap.size ≤ w.heap.size by omega)
  have HL1x0 := hJ (show w.heap.size < x1.heap.size from HQ1x0.out.lt)
  have cl2 := HQ1x0.out.cell 1 rfl
  go_enter Try.func50, Try.ntmps50
  go_wp2
  clear hx1 cl2
  go_ret
  exact ⟨by rw [HV.out] <;> rfl, HB1.out⟩
 ·have HV := hJ (show halfV x 0 = 0 from if_pos (.inr ⟨rfl, q⟩))
  obtain ⟨x3, hx3⟩ := nmz (w.alloc (.cells #[.int .i64 x, .int .i64 0] 25))
  have HB3 := hJ (show Below w.heap.size w x3 by rw [← hx3]; exact ((Below.refl _ _).alloc (Nat.le_refl _) _))
  have HQ3x0 := hJ (show BX 25 x3 w.heap.size #[.int .i64 x, .int .i64 0] by rw [← hx3]; exact (BX.at rfl))
  have HG3x0 := hJ (show w.heap.size ≤ w.heap.size by omega)
  have HL3x0 := hJ (show w.heap.size < x3.heap.size from HQ3x0.out.lt)
  have cl4 := HQ3x0.out.cell 1 rfl
  have cl5 := HQ3x0.out.cell 1 rfl
  have cl6 := HQ3x0.out.cell 0 rfl
  go_enter Try.func50, Try.ntmps50
  go_wp2
  clear hx3 cl4 cl5 cl6
  go_ret
  exact ⟨by rw [HV.out] <;> rfl, HB3.out⟩
 ·have HV := hJ (show halfV x 0 = 1 from if_neg (by omega))
  have q2 : x ≤ 0 := by omega
  clear q
  obtain ⟨x7, hx7⟩ := nmz (w.alloc (.cells #[.int .i64 x, .int .i64 0] 25))
  have HB7 := hJ (show Below w.heap.size w x7 by rw [← hx7]; exact ((Below.refl _ _).alloc (Nat.le_refl _) _))
  have HQ7x0 := hJ (show BX 25 x7 w.heap.size #[.int .i64 x, .int .i64 0] by rw [← hx7]; exact (BX.at rfl))
  have HG7x0 := hJ (show w.heap.size ≤ w.heap.size by omega)
  have HL7x0 := hJ (show w.heap.size < x7.heap.size from HQ7x0.out.lt)
  have cl8 := HQ7x0.out.cell 1 rfl
  have cl9 := HQ7x0.out.cell 1 rfl
  have cl10 := HQ7x0.out.cell 0 rfl
  go_enter Try.func50, Try.ntmps50
  go_wp2
  clear hx7 cl8 cl9 cl10
  go_ret
  exact ⟨by rw [HV.out] <;> rfl, HB7.out⟩
 ·have HV := hJ (show halfV x y = 1 from if_neg (by omega))
  obtain ⟨x11, hx11⟩ := nmz (w.alloc (.cells #[.int .i64 x, .int .i64 y] 25))
  have HB11 := hJ (show Below w.heap.size w x11 by rw [← hx11]; exact ((Below.refl _ _).alloc (Nat.le_refl _) _))
  have HQ11x0 := hJ (show BX 25 x11 w.heap.size #[.int .i64 x, .int .i64 y] by rw [← hx11]; exact (BX.at rfl))
  have HG11x0 := hJ (show w.heap.size ≤ w.heap.size by omega)
  have HL11x0 := hJ (show w.heap.size < x11.heap.size from HQ11x0.out.lt)
  have cl12 := HQ11x0.out.cell 1 rfl
  have cl13 := HQ11x0.out.cell 1 rfl
  go_enter Try.func50, Try.ntmps50
  go_wp2
  clear hx11 cl12 cl13
  go_ret
  exact ⟨by rw [HV.out] <;> rfl, HB11.out⟩
set_option maxRecDepth 100000 in
set_option maxHeartbeats 1600000 in
theorem angles_any (a b c d : Int) (w : World) (h : I6 (c * b) ∧ I6 (d * a)) :
  Calls Try.prog 30 #[.agg #[.int .i64 a, .int .i64 b], .agg #[.int .i64 c, .int .i64 d]] w fun e w' => e = .returned (.int .i64 (angV a b c d)) ∧ Below w.heap.size w w' := by
 have HW := hJ h
 clear h
 obtain ⟨k, hk⟩ := nmz (cmpI (halfV a b) (halfV c d))
 have HK := hJ hk
 clear hk
 obtain ⟨x1, hx1⟩ := nmz ((w.alloc (.cells #[.int .i64 a, .int .i64 b] 25)).alloc (.cells #[.int .i64 c, .int .i64 d] 25))
 have HB1 := hJ (show Below w.heap.size w x1 by rw [← hx1]; exact (((Below.refl _ _).alloc (Nat.le_refl _) _).alloc (by simp only [World.size_alloc]; omega) _))
 have HQ1x0 := hJ (show BX 25 x1 w.heap.size #[.int .i64 a, .int .i64 b] by rw [← hx1]; exact ((BX.at rfl).alloc _))
 have HG1x0 := hJ (show w.heap.size ≤ w.heap.size by omega)
 have HL1x0 := hJ (show w.heap.size < x1.heap.size from HQ1x0.out.lt)
 have HQ1x1 := hJ (show BX 25 x1 (w.heap.size + 1) #[.int .i64 c, .int .i64 d] by rw [← hx1]; exact (BX.at (by simp only [World.size_alloc])))
 have HG1x1 := hJ (show w.heap.size ≤ w.heap.size + 1 by omega)
 have HL1x1 := hJ (show w.heap.size + 1 < x1.heap.size from HQ1x1.out.lt)
 have HS2 : Hid (∀ w', Below x1.heap.size x1 w' → (fun w' : World => w'.cell? ⟨w.heap.size, 0, none⟩ = some (.int .i64 a) ∧ w'.cell? ⟨w.heap.size, 1, none⟩ = some (.int .i64 b) ∧ w'.cell? ⟨w.heap.size + 1, 0, none⟩ = some (.int .i64 c) ∧ w'.cell? ⟨w.heap.size + 1, 1, none⟩ = some (.int .i64 d) ∧ Below x1.heap.size x1 w') w') := hJ (fun w' hb => ⟨(BX.new HQ1x0.out hb).cell 0 rfl, (BX.new HQ1x0.out hb).cell 1 rfl, (BX.new HQ1x1.out hb).cell 0 rfl, (BX.new HQ1x1.out hb).cell 1 rfl, hb⟩)
 go_enter Try.func30, Try.ntmps30
 go_wp2_with fail
 clear hx1
 obtain ⟨v2, hv2⟩ := nmz (World.drew x1)
 have HX2 := hJ (show Below x1.heap.size x1 v2 by rw [← hv2]; exact (Below.refl _ _).drew)
 refine wp_region_held_drew (S := (fun w' : World => w'.cell? ⟨w.heap.size, 0, none⟩ = some (.int .i64 a) ∧ w'.cell? ⟨w.heap.size, 1, none⟩ = some (.int .i64 b) ∧ w'.cell? ⟨w.heap.size + 1, 0, none⟩ = some (.int .i64 c) ∧ w'.cell? ⟨w.heap.size + 1, 1, none⟩ = some (.int .i64 d) ∧ Below x1.heap.size x1 w')) (by kernel_rfl) ?_ (fun hHeld => ?_)
 ·rw [hv2]
  exact HS2.out _ HX2.out
 rw [hv2] at hHeld ⊢
 clear hv2
 refine tq 0 ?_
 try simp only [PT]
 refine tq 2 ?_
 try simp only [PT]
 refine wpAnyH_ready (rs := [1]) (by kernel_rfl) (by simp) ?_
 refine .cons rfl (fun K hK => ?_) .nil
 go_simp
 go_at_call 50
 refine (half_any a b v2).mono ?_
 rintro e v3 ⟨rfl, hb⟩
 have HB3 := hJ hb
 clear hb
 go_wp2_with fail
 have HX3 := hJ (bt HX2.out HB3.out)
 clear hHeld
 refine hK.out _ _ (HS2.out _ HX3.out) (fun hHeld => ?_)
 clear hK K
 try simp only [PT]
 refine wpAnyH_ready (rs := [3]) (by kernel_rfl) (by simp) ?_
 refine .cons rfl (fun K hK => ?_) .nil
 go_simp
 go_at_call 50
 refine (half_any c d v3).mono ?_
 rintro e v4 ⟨rfl, hb⟩
 have HB4 := hJ hb
 clear hb
 go_wp2_with fail
 have HX4 := hJ (bt HX3.out HB4.out)
 clear hHeld
 refine hK.out _ _ (HS2.out _ HX4.out) (fun hHeld => ?_)
 clear hK K
 try simp only [PT]
 refine wpAnyH_ready (rs := [4]) (by kernel_rfl) (by simp) ?_
 refine .cons rfl (fun K hK => ?_) .nil
 go_simp
 go_at_call 49
 refine (cmpi_any (halfV a b) (halfV c d) (cmpI (halfV a b) (halfV c d)) v4 (cmpI_is _ _)).mono ?_
 rw [HK.out]
 rintro e v5 ⟨rfl, rfl⟩
 go_wp2_with fail
 clear hHeld
 refine hK.out _ _ (HS2.out _ HX4.out) (fun hHeld => ?_)
 clear hK K
 try simp only [PT]
 refine tq 5 ?_
 try simp only [PT]
 refine wpAnyH_done (by kernel_rfl) ?_ _
 clear hHeld
 by_cases hk0 : k = 0
 ·subst hk0
  have HV := hJ (show angV a b c d = cmpI (c * b) (d * a) from if_pos HK.out)
  have HQ1x1w2 := hJ (BX.new HQ1x1.out HX4.out)
  obtain ⟨cl6, cl7⟩ := HQ1x1w2.out.c2 0 1 rfl rfl
  have HQ1x0w2 := hJ (BX.new HQ1x0.out HX4.out)
  obtain ⟨cl8, cl9⟩ := HQ1x0w2.out.c2 0 1 rfl rfl
  go_wp2_with fail
  clear cl6 cl7 cl8 cl9
  refine (bend_any c d a b v4 (HW.out.1) (HW.out.2)).mono ?_
  rintro e w10 ⟨rfl, hb⟩
  have HB10 := hJ hb
  clear hb
  have HC0_3 := hJ (bt (bt HB1.out HX4.out) HB10.out)
  go_wp2
  go_ret
  exact ⟨by rw [HV.out] <;> rfl, HC0_3.out⟩
 ·have hkz : (k == 0) = false := by simp [hk0]
  have HV := hJ (show angV a b c d = k by rw [angV, HK.out, if_neg hk0])
  clear hk0
  have HC0_2 := hJ (bt HB1.out HX4.out)
  go_wp2
  go_ret
  exact ⟨by rw [HV.out] <;> rfl, HC0_2.out⟩
set_option maxRecDepth 100000 in
set_option maxHeartbeats 1600000 in
theorem gridside_any (ax ay bx by' cx cy : Int) (w : World) (h : G3 ax ay bx by' cx cy) :
  Calls Try.prog 22 #[.agg #[.int .i64 ax, .int .i64 ay], .agg #[.int .i64 bx, .int .i64 by'], .agg #[.int .i64 cx, .int .i64 cy]] w fun e w' => e = .returned (.int .i64 (sdV ax ay bx by' cx cy)) ∧ Below w.heap.size w w' := by
 have HG := hJ h
 clear h
 obtain ⟨x1, hx1⟩ := nmz (((w.alloc (.cells #[.int .i64 ax, .int .i64 ay] 25)).alloc (.cells #[.int .i64 bx, .int .i64 by'] 25)).alloc (.cells #[.int .i64 cx, .int .i64 cy] 25))
 have HB1 := hJ (show Below w.heap.size w x1 by rw [← hx1]; exact ((((Below.refl _ _).alloc (Nat.le_refl _) _).alloc (by simp only [World.size_alloc]; omega) _).alloc (by simp only [World.size_alloc]; omega) _))
 have HQ1x0 := hJ (show BX 25 x1 w.heap.size #[.int .i64 ax, .int .i64 ay] by rw [← hx1]; exact (((BX.at rfl).alloc _).alloc _))
 have HG1x0 := hJ (show w.heap.size ≤ w.heap.size by omega)
 have HL1x0 := hJ (show w.heap.size < x1.heap.size from HQ1x0.out.lt)
 have HQ1x1 := hJ (show BX 25 x1 (w.heap.size + 1) #[.int .i64 bx, .int .i64 by'] by rw [← hx1]; exact ((BX.at (by simp only [World.size_alloc])).alloc _))
 have HG1x1 := hJ (show w.heap.size ≤ w.heap.size + 1 by omega)
 have HL1x1 := hJ (show w.heap.size + 1 < x1.heap.size from HQ1x1.out.lt)
 have HQ1x2 := hJ (show BX 25 x1 (w.heap.size + 2) #[.int .i64 cx, .int .i64 cy] by rw [← hx1]; exact (BX.at (by simp only [World.size_alloc])))
 have HG1x2 := hJ (show w.heap.size ≤ w.heap.size + 2 by omega)
 have HL1x2 := hJ (show w.heap.size + 2 < x1.heap.size from HQ1x2.out.lt)
 have HS2 : Hid (∀ w', Below x1.heap.size x1 w' → (fun w' : World => w'.cell? ⟨w.heap.size, 0, none⟩ = some (.int .i64 ax) ∧ w'.cell? ⟨w.heap.size, 1, none⟩ = some (.int .i64 ay) ∧ w'.cell? ⟨w.heap.size + 1, 0, none⟩ = some (.int .i64 bx) ∧ w'.cell? ⟨w.heap.size + 1, 1, none⟩ = some (.int .i64 by') ∧ w'.cell? ⟨w.heap.size + 2, 0, none⟩ = some (.int .i64 cx) ∧ w'.cell? ⟨w.heap.size + 2, 1, none⟩ = some (.int .i64 cy) ∧ Below x1.heap.size x1 w') w') := hJ (fun w' hb => ⟨(BX.new HQ1x0.out hb).cell 0 rfl, (BX.new HQ1x0.out hb).cell 1 rfl, (BX.new HQ1x1.out hb).cell 0 rfl, (BX.new HQ1x1.out hb).cell 1 rfl, (BX.new HQ1x2.out hb).cell 0 rfl, (BX.new HQ1x2.out hb).cell 1 rfl, hb⟩)
 go_enter Try.func22, Try.ntmps22
 go_wp2_with fail
 clear hx1
 obtain ⟨v2, hv2⟩ := nmz (World.drew x1)
 have HX2 := hJ (show Below x1.heap.size x1 v2 by rw [← hv2]; exact (Below.refl _ _).drew)
 refine wp_region_held_drew (S := (fun w' : World => w'.cell? ⟨w.heap.size, 0, none⟩ = some (.int .i64 ax) ∧ w'.cell? ⟨w.heap.size, 1, none⟩ = some (.int .i64 ay) ∧ w'.cell? ⟨w.heap.size + 1, 0, none⟩ = some (.int .i64 bx) ∧ w'.cell? ⟨w.heap.size + 1, 1, none⟩ = some (.int .i64 by') ∧ w'.cell? ⟨w.heap.size + 2, 0, none⟩ = some (.int .i64 cx) ∧ w'.cell? ⟨w.heap.size + 2, 1, none⟩ = some (.int .i64 cy) ∧ Below x1.heap.size x1 w')) (by kernel_rfl) ?_ (fun hHeld => ?_)
 ·rw [hv2]
  exact HS2.out _ HX2.out
 rw [hv2] at hHeld ⊢
 clear hv2
 refine tq 0 ?_
 try simp only [PT]
 refine tq 1 ?_
 try simp only [PT]
 refine tq 3 ?_
 try simp only [PT]
 refine tq 4 ?_
 try simp only [PT]
 refine wpAnyH_ready (rs := [2]) (by kernel_rfl) (by simp) ?_
 refine .cons rfl (fun K hK => ?_) .nil
 go_simp
 go_at_call 34
 refine (away_any ax ay bx by' v2 (HG.out.1.1) (HG.out.1.2)).mono ?_
 rintro e v3 ⟨rfl, hb⟩
 have HB3 := hJ hb
 clear hb
 go_wp2_with fail
 have HX3 := hJ (bt HX2.out HB3.out)
 clear hHeld
 refine hK.out _ _ (HS2.out _ HX3.out) (fun hHeld => ?_)
 clear hK K
 try simp only [PT]
 refine wpAnyH_ready (rs := [5]) (by kernel_rfl) (by simp) ?_
 refine .cons rfl (fun K hK => ?_) .nil
 go_simp
 go_at_call 34
 refine (away_any ax ay cx cy v3 (HG.out.2.1.1) (HG.out.2.1.2)).mono ?_
 rintro e v4 ⟨rfl, hb⟩
 have HB4 := hJ hb
 clear hb
 go_wp2_with fail
 have HX4 := hJ (bt HX3.out HB4.out)
 clear hHeld
 refine hK.out _ _ (HS2.out _ HX4.out) (fun hHeld => ?_)
 clear hK K
 try simp only [PT]
 refine wpAnyH_ready (rs := [6]) (by kernel_rfl) (by simp) ?_
 refine .cons rfl (fun K hK => ?_) .nil
 go_simp
 go_at_call 33
 refine (bend_any (bx - ax) (by' - ay) (cx - ax) (cy - ay) v4 (HG.out.2.2.1) (HG.out.2.2.2)).mono ?_
 rintro e v5 ⟨rfl, hb⟩
 have HB5 := hJ hb
 clear hb
 go_wp2_with fail
 have HX5 := hJ (bt HX4.out HB5.out)
 clear hHeld
 refine hK.out _ _ (HS2.out _ HX5.out) (fun hHeld => ?_)
 clear hK K
 try simp only [PT]
 refine tq 7 ?_
 try simp only [PT]
 refine wpAnyH_done (by kernel_rfl) ?_ _
 clear hHeld
 have HC0_2 := hJ (bt HB1.out HX5.out)
 go_wp2
 go_ret
 exact ⟨rfl, HC0_2.out⟩
set_option maxRecDepth 100000 in
set_option maxHeartbeats 1600000 in
theorem dirs_any (L : List (Int × Int)) (n g : Nat) (w : World) (hn : L.length = n) (hn2 : n ≤ 1000) (hq : BX 25 w g (ptV L).toArray) :
  Calls Try.prog 29 #[.slice (some ⟨g, 0, none⟩) n n] w fun e w' => e = .returned (.int .i64 (fsE diP L)) ∧ Below w.heap.size w w' := by
 have HQ0 := hJ hq
 have HN := hJ hn
 have HN2 := hJ hn2
 clear hq hn hn2
 go_enter Try.func29, Try.ntmps29
 go_wp2_with fail
 go_loopw [7] (fun tv wr => ∃ i : Nat, i ≤ n ∧ tv = .int .i64 (i : Int) ∧ Below w.heap.size w wr ∧ Hid (fsE diP (L.drop i) = fsE diP L)) (fun tv _ => n - (intOf tv).toNat)
 case atStart => exact ⟨0, by omega, rfl, Below.refl _ _, hJ rfl⟩
 case round =>
  obtain ⟨i, hi, rfl, hbel, HI⟩ := hrel
  obtain ⟨wl1, rfl⟩ : ∃ W : World, W = wr := ⟨_, rfl⟩
  have HB1 := hJ hbel
  clear hbel
  have h0i : (0 : Int) ≤ (i : Int) := by omega
  by_cases hlt : i < n
  ·obtain ⟨⟨x, y⟩, hp⟩ : ∃ p, L[i]? = some p := ⟨_, List.getElem?_eq_getElem (by rw [HN.out]; exact hlt)⟩
   have HS0 := hJ (ptV_get hp).1
   have HS1 := hJ (ptV_get hp).2
   have HD := hJ (fs_drop (f := diP) hp)
   have hlt2 : (i : Int) < (n : Int) := by omega
   have hw1 : IntKind.i64.wrap ((i : Int) + 1) = (i : Int) + 1 := IntWalk.i64_in _ (by have := HN2.out; omega)
   clear hp
   have HQ0w1 := hJ (BX.new HQ0.out HB1.out)
   have cl6 := HQ0w1.out.cell (i * 2) HS0.out
   have cl7 := HQ0w1.out.cell (i * 2 + 1) HS1.out
   rcases (show (x < y ∧ 2147483648 < y) ∨ (x < y ∧ y ≤ 2147483648 ∧ x < -2147483648) ∨ (x < y ∧ y ≤ 2147483648 ∧ -2147483648 ≤ x ∧ ¬ x = 0) ∨ (x < y ∧ y ≤ 2147483648 ∧ -2147483648 ≤ x ∧ x = 0 ∧ ¬ y = 0) ∨ (y < x ∧ 2147483648 < x) ∨ (y < x ∧ x ≤ 2147483648 ∧ y < -2147483648) ∨ (y < x ∧ x ≤ 2147483648 ∧ -2147483648 ≤ y ∧ ¬ x = 0) ∨ (y < x ∧ x ≤ 2147483648 ∧ -2147483648 ≤ y ∧ x = 0 ∧ ¬ y = 0) ∨ ((x ≤ y ∧ y ≤ x) ∧ 2147483648 < x) ∨ ((x ≤ y ∧ y ≤ x) ∧ x ≤ 2147483648 ∧ x < -2147483648) ∨ ((x ≤ y ∧ y ≤ x) ∧ x ≤ 2147483648 ∧ -2147483648 ≤ x ∧ ¬ x = 0) ∨ (x = 0 ∧ y = 0) by omega) with ⟨q1, q2⟩ | ⟨q1, q2, q3⟩ | ⟨q1, q2, q3, q4⟩ | ⟨q1, q2, q3, q4, q5⟩ | ⟨q1, q2⟩ | ⟨q1, q2, q3⟩ | ⟨q1, q2, q3, q4⟩ | ⟨q1, q2, q3, q4, q5⟩ | ⟨⟨q1, q0⟩, q2⟩ | ⟨⟨q1, q0⟩, q2, q3⟩ | ⟨⟨q1, q0⟩, q2, q3, q4⟩ | ⟨q1, q2⟩
   ·have h5 : diP (x, y) = 5 := if_pos (by omega)
    have HR := hJ (show fsE diP L = 5 by rw [← HI.out, HD.out, if_neg (by rw [h5]; decide)]; exact h5)
    clear h5
    obtain ⟨x8, hx8⟩ := nmz (wl1.alloc (.cells #[.int .i64 x, .int .i64 y] 25))
    have HB8 := hJ (show Below wl1.heap.size wl1 x8 by rw [← hx8]; exact ((Below.refl _ _).alloc (Nat.le_refl _) _))
    have HQ8x0 := hJ (show BX 25 x8 wl1.heap.size #[.int .i64 x, .int .i64 y] by rw [← hx8]; exact (BX.at rfl))
    have HG8x0 := hJ (show wl1.heap.size ≤ wl1.heap.size by omega)
    have HL8x0 := hJ (show wl1.heap.size < x8.heap.size from HQ8x0.out.lt)
    have cl9 := HQ8x0.out.cell 0 rfl
    have cl10 := HQ8x0.out.cell 1 rfl
    have HC0_2 := hJ (bt HB1.out HB8.out)
    go_wp2
    clear cl6 cl7 hx8 cl9 cl10
    go_ret
    exact ⟨by rw [HR.out] <;> rfl, HC0_2.out⟩
   ·have h5 : diP (x, y) = 5 := if_pos (by omega)
    have HR := hJ (show fsE diP L = 5 by rw [← HI.out, HD.out, if_neg (by rw [h5]; decide)]; exact h5)
    clear h5
    obtain ⟨x11, hx11⟩ := nmz (wl1.alloc (.cells #[.int .i64 x, .int .i64 y] 25))
    have HB11 := hJ (show Below wl1.heap.size wl1 x11 by rw [← hx11]; exact ((Below.refl _ _).alloc (Nat.le_refl _) _))
    have HQ11x0 := hJ (show BX 25 x11 wl1.heap.size #[.int .i64 x, .int .i64 y] by rw [← hx11]; exact (BX.at rfl))
    have HG11x0 := hJ (show wl1.heap.size ≤ wl1.heap.size by omega)
    have HL11x0 := hJ (show wl1.heap.size < x11.heap.size from HQ11x0.out.lt)
    have cl12 := HQ11x0.out.cell 0 rfl
    have cl13 := HQ11x0.out.cell 1 rfl
    have cl14 := HQ11x0.out.cell 0 rfl
    have cl15 := HQ11x0.out.cell 1 rfl
    have HC0_2 := hJ (bt HB1.out HB11.out)
    go_wp2
    clear cl6 cl7 hx11 cl12 cl13 cl14 cl15
    go_ret
    exact ⟨by rw [HR.out] <;> rfl, HC0_2.out⟩
   ·have HF := hJ (show fsE diP (L.drop (i + 1)) = fsE diP L by rw [← HI.out, HD.out, if_pos (show diP (x, y) = 0 from (if_neg (by omega)).trans (if_neg (by omega)))])
    obtain ⟨x16, hx16⟩ := nmz (wl1.alloc (.cells #[.int .i64 x, .int .i64 y] 25))
    have HB16 := hJ (show Below wl1.heap.size wl1 x16 by rw [← hx16]; exact ((Below.refl _ _).alloc (Nat.le_refl _) _))
    have HQ16x0 := hJ (show BX 25 x16 wl1.heap.size #[.int .i64 x, .int .i64 y] by rw [← hx16]; exact (BX.at rfl))
    have HG16x0 := hJ (show wl1.heap.size ≤ wl1.heap.size by omega)
    have HL16x0 := hJ (show wl1.heap.size < x16.heap.size from HQ16x0.out.lt)
    have cl17 := HQ16x0.out.cell 0 rfl
    have cl18 := HQ16x0.out.cell 1 rfl
    have cl19 := HQ16x0.out.cell 0 rfl
    have cl20 := HQ16x0.out.cell 1 rfl
    obtain ⟨cl21, cl22⟩ := HQ16x0.out.c2 0 1 rfl rfl
    have HC0_2 := hJ (bt HB1.out HB16.out)
    go_wp2_with fail
    clear cl6 cl7 hx16 cl17 cl18 cl19 cl20 cl21 cl22
    go_roundw
    case rel => exact ⟨i + 1, by omega, by go_num, HC0_2.out, HF⟩
    case measure => simp [intOf] <;> omega
   ·have HF := hJ (show fsE diP (L.drop (i + 1)) = fsE diP L by rw [← HI.out, HD.out, if_pos (show diP (x, y) = 0 from (if_neg (by omega)).trans (if_neg (by omega)))])
    have q6 : (x == 0) = true := by simp [q4]
    clear q4
    obtain ⟨x23, hx23⟩ := nmz (wl1.alloc (.cells #[.int .i64 x, .int .i64 y] 25))
    have HB23 := hJ (show Below wl1.heap.size wl1 x23 by rw [← hx23]; exact ((Below.refl _ _).alloc (Nat.le_refl _) _))
    have HQ23x0 := hJ (show BX 25 x23 wl1.heap.size #[.int .i64 x, .int .i64 y] by rw [← hx23]; exact (BX.at rfl))
    have HG23x0 := hJ (show wl1.heap.size ≤ wl1.heap.size by omega)
    have HL23x0 := hJ (show wl1.heap.size < x23.heap.size from HQ23x0.out.lt)
    have cl24 := HQ23x0.out.cell 0 rfl
    have cl25 := HQ23x0.out.cell 1 rfl
    have cl26 := HQ23x0.out.cell 0 rfl
    have cl27 := HQ23x0.out.cell 1 rfl
    obtain ⟨cl28, cl29⟩ := HQ23x0.out.c2 0 1 rfl rfl
    have HC0_2 := hJ (bt HB1.out HB23.out)
    go_wp2_with fail
    all_goals (first | (exfalso; have e1 : x = 0 := (by simpa using q6); contradiction) | skip)
    clear cl6 cl7 hx23 cl24 cl25 cl26 cl27 cl28 cl29
    go_roundw
    case rel => exact ⟨i + 1, by omega, by go_num, HC0_2.out, HF⟩
    case measure => simp [intOf] <;> omega
   ·have h5 : diP (x, y) = 5 := if_pos (by omega)
    have HR := hJ (show fsE diP L = 5 by rw [← HI.out, HD.out, if_neg (by rw [h5]; decide)]; exact h5)
    clear h5
    obtain ⟨x30, hx30⟩ := nmz (wl1.alloc (.cells #[.int .i64 x, .int .i64 y] 25))
    have HB30 := hJ (show Below wl1.heap.size wl1 x30 by rw [← hx30]; exact ((Below.refl _ _).alloc (Nat.le_refl _) _))
    have HQ30x0 := hJ (show BX 25 x30 wl1.heap.size #[.int .i64 x, .int .i64 y] by rw [← hx30]; exact (BX.at rfl))
    have HG30x0 := hJ (show wl1.heap.size ≤ wl1.heap.size by omega)
    have HL30x0 := hJ (show wl1.heap.size < x30.heap.size from HQ30x0.out.lt)
    have cl31 := HQ30x0.out.cell 0 rfl
    have cl32 := HQ30x0.out.cell 1 rfl
    have HC0_2 := hJ (bt HB1.out HB30.out)
    go_wp2
    clear cl6 cl7 hx30 cl31 cl32
    go_ret
    exact ⟨by rw [HR.out] <;> rfl, HC0_2.out⟩
   ·have h5 : diP (x, y) = 5 := if_pos (by omega)
    have HR := hJ (show fsE diP L = 5 by rw [← HI.out, HD.out, if_neg (by rw [h5]; decide)]; exact h5)
    clear h5
    obtain ⟨x33, hx33⟩ := nmz (wl1.alloc (.cells #[.int .i64 x, .int .i64 y] 25))
    have HB33 := hJ (show Below wl1.heap.size wl1 x33 by rw [← hx33]; exact ((Below.refl _ _).alloc (Nat.le_refl _) _))
    have HQ33x0 := hJ (show BX 25 x33 wl1.heap.size #[.int .i64 x, .int .i64 y] by rw [← hx33]; exact (BX.at rfl))
    have HG33x0 := hJ (show wl1.heap.size ≤ wl1.heap.size by omega)
    have HL33x0 := hJ (show wl1.heap.size < x33.heap.size from HQ33x0.out.lt)
    have cl34 := HQ33x0.out.cell 0 rfl
    have cl35 := HQ33x0.out.cell 1 rfl
    have cl36 := HQ33x0.out.cell 0 rfl
    have cl37 := HQ33x0.out.cell 1 rfl
    have HC0_2 := hJ (bt HB1.out HB33.out)
    go_wp2
    clear cl6 cl7 hx33 cl34 cl35 cl36 cl37
    go_ret
    exact ⟨by rw [HR.out] <;> rfl, HC0_2.out⟩
   ·have HF := hJ (show fsE diP (L.drop (i + 1)) = fsE diP L by rw [← HI.out, HD.out, if_pos (show diP (x, y) = 0 from (if_neg (by omega)).trans (if_neg (by omega)))])
    obtain ⟨x38, hx38⟩ := nmz (wl1.alloc (.cells #[.int .i64 x, .int .i64 y] 25))
    have HB38 := hJ (show Below wl1.heap.size wl1 x38 by rw [← hx38]; exact ((Below.refl _ _).alloc (Nat.le_refl _) _))
    have HQ38x0 := hJ (show BX 25 x38 wl1.heap.size #[.int .i64 x, .int .i64 y] by rw [← hx38]; exact (BX.at rfl))
    have HG38x0 := hJ (show wl1.heap.size ≤ wl1.heap.size by omega)
    have HL38x0 := hJ (show wl1.heap.size < x38.heap.size from HQ38x0.out.lt)
    have cl39 := HQ38x0.out.cell 0 rfl
    have cl40 := HQ38x0.out.cell 1 rfl
    have cl41 := HQ38x0.out.cell 0 rfl
    have cl42 := HQ38x0.out.cell 1 rfl
    obtain ⟨cl43, cl44⟩ := HQ38x0.out.c2 0 1 rfl rfl
    have HC0_2 := hJ (bt HB1.out HB38.out)
    go_wp2_with fail
    clear cl6 cl7 hx38 cl39 cl40 cl41 cl42 cl43 cl44
    go_roundw
    case rel => exact ⟨i + 1, by omega, by go_num, HC0_2.out, HF⟩
    case measure => simp [intOf] <;> omega
   ·have HF := hJ (show fsE diP (L.drop (i + 1)) = fsE diP L by rw [← HI.out, HD.out, if_pos (show diP (x, y) = 0 from (if_neg (by omega)).trans (if_neg (by omega)))])
    have q6 : (x == 0) = true := by simp [q4]
    clear q4
    obtain ⟨x45, hx45⟩ := nmz (wl1.alloc (.cells #[.int .i64 x, .int .i64 y] 25))
    have HB45 := hJ (show Below wl1.heap.size wl1 x45 by rw [← hx45]; exact ((Below.refl _ _).alloc (Nat.le_refl _) _))
    have HQ45x0 := hJ (show BX 25 x45 wl1.heap.size #[.int .i64 x, .int .i64 y] by rw [← hx45]; exact (BX.at rfl))
    have HG45x0 := hJ (show wl1.heap.size ≤ wl1.heap.size by omega)
    have HL45x0 := hJ (show wl1.heap.size < x45.heap.size from HQ45x0.out.lt)
    have cl46 := HQ45x0.out.cell 0 rfl
    have cl47 := HQ45x0.out.cell 1 rfl
    have cl48 := HQ45x0.out.cell 0 rfl
    have cl49 := HQ45x0.out.cell 1 rfl
    obtain ⟨cl50, cl51⟩ := HQ45x0.out.c2 0 1 rfl rfl
    have HC0_2 := hJ (bt HB1.out HB45.out)
    go_wp2_with fail
    all_goals (first | (exfalso; have e1 : x = 0 := (by simpa using q6); contradiction) | skip)
    clear cl6 cl7 hx45 cl46 cl47 cl48 cl49 cl50 cl51
    go_roundw
    case rel => exact ⟨i + 1, by omega, by go_num, HC0_2.out, HF⟩
    case measure => simp [intOf] <;> omega
   ·have h5 : diP (x, y) = 5 := if_pos (by omega)
    have HR := hJ (show fsE diP L = 5 by rw [← HI.out, HD.out, if_neg (by rw [h5]; decide)]; exact h5)
    clear h5
    obtain ⟨x52, hx52⟩ := nmz (wl1.alloc (.cells #[.int .i64 x, .int .i64 y] 25))
    have HB52 := hJ (show Below wl1.heap.size wl1 x52 by rw [← hx52]; exact ((Below.refl _ _).alloc (Nat.le_refl _) _))
    have HQ52x0 := hJ (show BX 25 x52 wl1.heap.size #[.int .i64 x, .int .i64 y] by rw [← hx52]; exact (BX.at rfl))
    have HG52x0 := hJ (show wl1.heap.size ≤ wl1.heap.size by omega)
    have HL52x0 := hJ (show wl1.heap.size < x52.heap.size from HQ52x0.out.lt)
    have cl53 := HQ52x0.out.cell 0 rfl
    have cl54 := HQ52x0.out.cell 1 rfl
    have HC0_2 := hJ (bt HB1.out HB52.out)
    go_wp2
    clear cl6 cl7 hx52 cl53 cl54
    go_ret
    exact ⟨by rw [HR.out] <;> rfl, HC0_2.out⟩
   ·have h5 : diP (x, y) = 5 := if_pos (by omega)
    have HR := hJ (show fsE diP L = 5 by rw [← HI.out, HD.out, if_neg (by rw [h5]; decide)]; exact h5)
    clear h5
    obtain ⟨x55, hx55⟩ := nmz (wl1.alloc (.cells #[.int .i64 x, .int .i64 y] 25))
    have HB55 := hJ (show Below wl1.heap.size wl1 x55 by rw [← hx55]; exact ((Below.refl _ _).alloc (Nat.le_refl _) _))
    have HQ55x0 := hJ (show BX 25 x55 wl1.heap.size #[.int .i64 x, .int .i64 y] by rw [← hx55]; exact (BX.at rfl))
    have HG55x0 := hJ (show wl1.heap.size ≤ wl1.heap.size by omega)
    have HL55x0 := hJ (show wl1.heap.size < x55.heap.size from HQ55x0.out.lt)
    have cl56 := HQ55x0.out.cell 0 rfl
    have cl57 := HQ55x0.out.cell 1 rfl
    have cl58 := HQ55x0.out.cell 0 rfl
    have cl59 := HQ55x0.out.cell 1 rfl
    have HC0_2 := hJ (bt HB1.out HB55.out)
    go_wp2
    clear cl6 cl7 hx55 cl56 cl57 cl58 cl59
    go_ret
    exact ⟨by rw [HR.out] <;> rfl, HC0_2.out⟩
   ·have HF := hJ (show fsE diP (L.drop (i + 1)) = fsE diP L by rw [← HI.out, HD.out, if_pos (show diP (x, y) = 0 from (if_neg (by omega)).trans (if_neg (by omega)))])
    obtain ⟨x60, hx60⟩ := nmz (wl1.alloc (.cells #[.int .i64 x, .int .i64 y] 25))
    have HB60 := hJ (show Below wl1.heap.size wl1 x60 by rw [← hx60]; exact ((Below.refl _ _).alloc (Nat.le_refl _) _))
    have HQ60x0 := hJ (show BX 25 x60 wl1.heap.size #[.int .i64 x, .int .i64 y] by rw [← hx60]; exact (BX.at rfl))
    have HG60x0 := hJ (show wl1.heap.size ≤ wl1.heap.size by omega)
    have HL60x0 := hJ (show wl1.heap.size < x60.heap.size from HQ60x0.out.lt)
    have cl61 := HQ60x0.out.cell 0 rfl
    have cl62 := HQ60x0.out.cell 1 rfl
    have cl63 := HQ60x0.out.cell 0 rfl
    have cl64 := HQ60x0.out.cell 1 rfl
    obtain ⟨cl65, cl66⟩ := HQ60x0.out.c2 0 1 rfl rfl
    have HC0_2 := hJ (bt HB1.out HB60.out)
    go_wp2_with fail
    clear cl6 cl7 hx60 cl61 cl62 cl63 cl64 cl65 cl66
    go_roundw
    case rel => exact ⟨i + 1, by omega, by go_num, HC0_2.out, HF⟩
    case measure => simp [intOf] <;> omega
   ·have h5 : diP (x, y) = 1 := by rw [q1, q2]; rfl
    have HR := hJ (show fsE diP L = 1 by rw [← HI.out, HD.out, if_neg (by rw [h5]; decide)]; exact h5)
    clear h5
    have q3 : (x == 0) = true := by simp [q1]
    have q4 : (y == 0) = true := by simp [q2]
    have q6 : x ≤ y := by omega
    have q7 : y ≤ x := by omega
    have q8 : x ≤ 2147483648 := by omega
    have q9 : -2147483648 ≤ x := by omega
    clear q1 q2
    obtain ⟨x67, hx67⟩ := nmz (wl1.alloc (.cells #[.int .i64 x, .int .i64 y] 25))
    have HB67 := hJ (show Below wl1.heap.size wl1 x67 by rw [← hx67]; exact ((Below.refl _ _).alloc (Nat.le_refl _) _))
    have HQ67x0 := hJ (show BX 25 x67 wl1.heap.size #[.int .i64 x, .int .i64 y] by rw [← hx67]; exact (BX.at rfl))
    have HG67x0 := hJ (show wl1.heap.size ≤ wl1.heap.size by omega)
    have HL67x0 := hJ (show wl1.heap.size < x67.heap.size from HQ67x0.out.lt)
    have cl68 := HQ67x0.out.cell 0 rfl
    have cl69 := HQ67x0.out.cell 1 rfl
    have cl70 := HQ67x0.out.cell 0 rfl
    have cl71 := HQ67x0.out.cell 1 rfl
    obtain ⟨cl72, cl73⟩ := HQ67x0.out.c2 0 1 rfl rfl
    have HC0_2 := hJ (bt HB1.out HB67.out)
    go_wp2
    all_goals (first | (exfalso; have e1 : x = 0 := (by simpa using q3); contradiction) | skip)
    all_goals (first | (exfalso; have e1 : y = 0 := (by simpa using q4); contradiction) | skip)
    clear cl6 cl7 hx67 cl68 cl69 cl70 cl71 cl72 cl73
    go_ret
    exact ⟨by rw [HR.out] <;> rfl, HC0_2.out⟩
  ·have hlt2 : ¬ (i : Int) < (n : Int) := by omega
   have HR := hJ (show fsE diP L = 0 by rw [← HI.out, List.drop_of_length_le (by rw [HN.out]; omega)]; rfl)
   go_wp2
   go_ret
   exact ⟨by rw [HR.out] <;> rfl, HB1.out⟩
set_option maxRecDepth 100000 in
set_option maxHeartbeats 1600000 in
theorem valids_any (L : List (Int × Int)) (n g : Nat) (w : World) (hn : L.length = n) (hn2 : n ≤ 1000) (hq : BX 25 w g (ptV L).toArray) :
  Calls Try.prog 21 #[.slice (some ⟨g, 0, none⟩) n n] w fun e w' => e = .returned (.int .i64 (fsE vdP L)) ∧ Below w.heap.size w w' := by
 have HQ0 := hJ hq
 have HN := hJ hn
 have HN2 := hJ hn2
 clear hq hn hn2
 go_enter Try.func21, Try.ntmps21
 go_wp2_with fail
 go_loopw [8] (fun tv wr => ∃ i : Nat, i ≤ n ∧ tv = .int .i64 (i : Int) ∧ Below w.heap.size w wr ∧ Hid (fsE vdP (L.drop i) = fsE vdP L)) (fun tv _ => n - (intOf tv).toNat)
 case atStart => exact ⟨0, by omega, rfl, Below.refl _ _, hJ rfl⟩
 case round =>
  obtain ⟨i, hi, rfl, hbel, HI⟩ := hrel
  obtain ⟨wl1, rfl⟩ : ∃ W : World, W = wr := ⟨_, rfl⟩
  have HB1 := hJ hbel
  clear hbel
  have h0i : (0 : Int) ≤ (i : Int) := by omega
  by_cases hlt : i < n
  ·obtain ⟨⟨x, y⟩, hp⟩ : ∃ p, L[i]? = some p := ⟨_, List.getElem?_eq_getElem (by rw [HN.out]; exact hlt)⟩
   have HS0 := hJ (ptV_get hp).1
   have HS1 := hJ (ptV_get hp).2
   have HD := hJ (fs_drop (f := vdP) hp)
   have hlt2 : (i : Int) < (n : Int) := by omega
   have hw1 : IntKind.i64.wrap ((i : Int) + 1) = (i : Int) + 1 := IntWalk.i64_in _ (by have := HN2.out; omega)
   clear hp
   have HQ0w1 := hJ (BX.new HQ0.out HB1.out)
   have cl6 := HQ0w1.out.cell (i * 2) HS0.out
   have cl7 := HQ0w1.out.cell (i * 2 + 1) HS1.out
   obtain ⟨x8, hx8⟩ := nmz (wl1.alloc (.cells #[.int .i64 x, .int .i64 y] 25))
   have HB8 := hJ (show Below wl1.heap.size wl1 x8 by rw [← hx8]; exact ((Below.refl _ _).alloc (Nat.le_refl _) _))
   have HQ8x0 := hJ (show BX 25 x8 wl1.heap.size #[.int .i64 x, .int .i64 y] by rw [← hx8]; exact (BX.at rfl))
   have HG8x0 := hJ (show wl1.heap.size ≤ wl1.heap.size by omega)
   have HL8x0 := hJ (show wl1.heap.size < x8.heap.size from HQ8x0.out.lt)
   obtain ⟨cl9, cl10⟩ := HQ8x0.out.c2 0 1 rfl rfl
   go_wp2_with fail
   clear cl6 cl7 hx8 cl9 cl10
   refine (validp_any x y x8).mono ?_
   rintro e w11 ⟨rfl, hb⟩
   have HB11 := hJ hb
   clear hb
   by_cases hv : vdP (x, y) = 0
   ·have HF := hJ (show fsE vdP (L.drop (i + 1)) = fsE vdP L by rw [← HI.out, HD.out, if_pos (show vdP (x, y) = 0 from hv)])
    have hvb : (vdP (x, y) == 0) = true := by simp [hv]
    have HC0_3 := hJ (bt (bt HB1.out HB8.out) HB11.out)
    go_wp2_with fail
    go_roundw
    case rel => exact ⟨i + 1, by omega, by go_num, HC0_3.out, HF⟩
    case measure => simp [intOf] <;> omega
   ·have HR := hJ (show fsE vdP L = vdP (x, y) by rw [← HI.out, HD.out, if_neg hv])
    have hvb : (vdP (x, y) == 0) = false := by simp [hv]
    have HC0_3 := hJ (bt (bt HB1.out HB8.out) HB11.out)
    go_wp2
    go_ret
    exact ⟨by rw [HR.out] <;> rfl, HC0_3.out⟩
  ·have hlt2 : ¬ (i : Int) < (n : Int) := by omega
   have HR := hJ (show fsE vdP L = 0 by rw [← HI.out, List.drop_of_length_le (by rw [HN.out]; omega)]; rfl)
   go_wp2
   go_ret
   exact ⟨by rw [HR.out] <;> rfl, HB1.out⟩
end Go.Proofs.Ytdamadkhbeonaaa
