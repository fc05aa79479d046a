/- Contracts: the reference's circle. Conditions: as each statement has them. -/
import Derived.Test.YtdamadkhbeonaaaPN
import Derived.Test.YtdamadkhbeonaaaEL
namespace Go.Proofs.Ytdamadkhbeonaaa
open Go.RowKit
attribute [local go_sem ↓] Go.wp_at_zero Go.wp_at_succ
set_option linter.unusedVariables false
set_option linter.unusedSimpArgs false
theorem vd_co {x y : Int} (h : Co x ∧ Co y) : vdP (x, y) = 0 := by
 have h1 := h.1.1
 have h2 := h.1.2
 have h3 := h.2.1
 have h4 := h.2.2
 exact if_pos ⟨⟨by show _ ≤ x; omega, by show _ ≤ y; omega⟩, by show x ≤ _; omega, by show y ≤ _; omega⟩
theorem fs_four {a b c d : Int × Int} (ha : vdP a = 0) (hb : vdP b = 0) (hc : vdP c = 0) (hd : vdP d = 0) : fsE vdP [a, b, c, d] = 0 := by rw [fs_zero ha, fs_zero hb, fs_zero hc, fs_zero hd]; rfl
theorem cr_c {ax ay bx by' cx cy dx dy : Int} (ha : vdP (ax, ay) = 0) (hb : vdP (bx, by') = 0) (hc : vdP (cx, cy) = 0) (hd : vdP (dx, dy) = 0) : crV bx by' cx cy ax ay dx dy = crV ax ay bx by' cx cy dx dy ∧ crE bx by' cx cy ax ay dx dy = crE ax ay bx by' cx cy dx dy := by
 have e1 := fs_four ha hb hc hd
 have e2 := fs_four hb hc ha hd
 exact ⟨by rw [crV, crV, if_pos e1, if_pos e2, ci_cyc], by rw [crE, crE, if_pos e1, if_pos e2, sd_cyc]⟩
theorem cr_s {ax ay bx by' cx cy dx dy : Int} (ha : vdP (ax, ay) = 0) (hb : vdP (bx, by') = 0) (hc : vdP (cx, cy) = 0) (hd : vdP (dx, dy) = 0) : crV bx by' ax ay cx cy dx dy = crV ax ay bx by' cx cy dx dy ∧ crE bx by' ax ay cx cy dx dy = crE ax ay bx by' cx cy dx dy := by
 have e1 := fs_four ha hb hc hd
 have e2 := fs_four hb ha hc hd
 refine ⟨by rw [crV, crV, if_pos e1, if_pos e2, ci_swap], ?_⟩
 rw [crE, crE, if_pos e1, if_pos e2, sd_swap]
 by_cases h : sdV ax ay bx by' cx cy = 0
 ·rw [if_pos h, if_pos (by omega)]
 ·rw [if_neg h, if_neg (by omega)]
theorem fs_05 (l : List (Int × Int)) : fsE vdP l = 0 ∨ fsE vdP l = 5 := by
 induction l with
 | nil => exact .inl rfl
 | cons p l ih =>
  unfold fsE
  split
  ·exact ih
  ·unfold vdP at *
   split
   ·rename_i h1 h2; rw [if_pos h2] at h1; exact absurd rfl h1
   ·exact .inr rfl
theorem fs_lead {f : Int × Int → Int} {p : Int × Int} {l : List (Int × Int)} (h : fsE f l = 0) : fsE f (p :: l) = f p := by
 unfold fsE
 split
 ·rename_i h1; rw [h, h1]
 ·rfl
theorem crE5 (ax ay bx by' cx cy dx dy : Int) : (crE ax ay bx by' cx cy dx dy == 5) = !(fsE vdP [(ax, ay), (bx, by'), (cx, cy), (dx, dy)] == 0) := by
 unfold crE
 rcases fs_05 [(ax, ay), (bx, by'), (cx, cy), (dx, dy)] with h | h
 ·rw [h, if_pos rfl]; split <;> rfl
 ·rw [h, if_neg (by decide)]; rfl
theorem soE5 (ax ay bx by' cx cy : Int) : (soE ax ay bx by' cx cy == 5) = !(fsE vdP [(ax, ay), (bx, by'), (cx, cy)] == 0) := by
 unfold soE
 rcases fs_05 [(ax, ay), (bx, by'), (cx, cy)] with h | h <;> rw [h] <;> rfl
theorem co_i6 {x y : Int} (h : Co x ∧ Co y) : I6 x ∧ I6 y := by have h1 := h.1; have h2 := h.2; unfold Co at h1 h2; unfold I6; omega
theorem co_nk {x y : Int} (h : Co x) (g : Co y) : Nk 32 (x - y) := by unfold Co at h g; unfold Nk; omega
/-- The bad points of the law. -/
def BadP (u0 v0 u1 v1 u2 v2 u3 v3 bx by' : Int) (k : Int) : Prop := (crE u0 v0 u1 v1 u2 v2 u3 v3 == 5) = !(vdP (bx, by') == 0) ∧ (soE u0 v0 u1 v1 u2 v2 == 5) = (!(vdP (bx, by') == 0) && decide (k < 3))
theorem badP_0 {x0 y0 x1 y1 x2 y2 x3 y3 bx by' : Int} (h1 : vdP (x1, y1) = 0) (h2 : vdP (x2, y2) = 0) (h3 : vdP (x3, y3) = 0) : BadP bx by' x1 y1 x2 y2 x3 y3 bx by' 0 :=
 ⟨by rw [crE5, fs_lead (by rw [fs_zero h1, fs_zero h2, fs_zero h3]; rfl)], by rw [soE5, fs_lead (by rw [fs_zero h1, fs_zero h2]; rfl), show decide ((0 : Int) < 3) = true from rfl, Bool.and_true]⟩
theorem badP_1 {x0 y0 x1 y1 x2 y2 x3 y3 bx by' : Int} (h0 : vdP (x0, y0) = 0) (h2 : vdP (x2, y2) = 0) (h3 : vdP (x3, y3) = 0) : BadP x0 y0 bx by' x2 y2 x3 y3 bx by' 1 :=
 ⟨by rw [crE5, fs_zero h0, fs_lead (by rw [fs_zero h2, fs_zero h3]; rfl)], by rw [soE5, fs_zero h0, fs_lead (by rw [fs_zero h2]; rfl), show decide ((1 : Int) < 3) = true from rfl, Bool.and_true]⟩
theorem badP_2 {x0 y0 x1 y1 x2 y2 x3 y3 bx by' : Int} (h0 : vdP (x0, y0) = 0) (h1 : vdP (x1, y1) = 0) (h3 : vdP (x3, y3) = 0) : BadP x0 y0 x1 y1 bx by' x3 y3 bx by' 2 :=
 ⟨by rw [crE5, fs_zero h0, fs_zero h1, fs_lead (by rw [fs_zero h3]; rfl)], by rw [soE5, fs_zero h0, fs_zero h1, fs_lead rfl, show decide ((2 : Int) < 3) = true from rfl, Bool.and_true]⟩
theorem badP_3 {x0 y0 x1 y1 x2 y2 x3 y3 bx by' : Int} (h0 : vdP (x0, y0) = 0) (h1 : vdP (x1, y1) = 0) (h2 : vdP (x2, y2) = 0) : BadP x0 y0 x1 y1 x2 y2 bx by' bx by' 3 :=
 ⟨by rw [crE5, fs_zero h0, fs_zero h1, fs_zero h2, fs_lead rfl], by rw [soE5, fs_zero h0, fs_zero h1, fs_zero h2]; rw [show decide ((3 : Int) < 3) = false from rfl, Bool.and_false]; rfl⟩
set_option maxRecDepth 100000 in
set_option maxHeartbeats 1600000 in
theorem rvalid4_any (x0 y0 x1 y1 x2 y2 x3 y3 : Int) (g : Nat) (w : World) (hq : BX 25 w g #[.int .i64 x0, .int .i64 y0, .int .i64 x1, .int .i64 y1, .int .i64 x2, .int .i64 y2, .int .i64 x3, .int .i64 y3]) (h0 : Co x0 ∧ Co y0) (h1 : Co x1 ∧ Co y1) (h2 : Co x2 ∧ Co y2) (h3 : Co x3 ∧ Co y3) :
  Calls Try.prog 20 #[.slice (some ⟨g, 0, none⟩) 4 4] w fun e w' => e = .returned (.int .i64 0) ∧ Below w.heap.size w w' := by
 have HQ0 := hJ hq
 have HC0 := hJ h0
 have HC1 := hJ h1
 have HC2 := hJ h2
 have HC3 := hJ h3
 clear hq h0 h1 h2 h3
 go_enter Try.func20, Try.ntmps20
 go_wp2_with fail
 go_loopw [3] (fun tv wr => ∃ i : Nat, i ≤ 4 ∧ tv = .int .i64 (i : Int) ∧ Below w.heap.size w wr) (fun tv _ => 4 - (intOf tv).toNat)
 case atStart => exact ⟨0, by omega, rfl, Below.refl _ _⟩
 case round =>
  obtain ⟨i1, hi, rfl, hbel⟩ := hrel
  obtain ⟨wl1, rfl⟩ : ∃ W : World, W = wr := ⟨_, rfl⟩
  have HB1 := hJ hbel
  clear hbel
  have hcs : i1 = 0 ∨ i1 = 1 ∨ i1 = 2 ∨ i1 = 3 ∨ i1 = 4 := by omega
  clear hi
  rcases hcs with rfl | rfl | rfl | rfl | rfl
  ·(try rw [show ((0 : Nat) : Int) = 0 from rfl])
   have HQ0w1 := hJ (BX.new HQ0.out HB1.out)
   obtain ⟨cl2, cl3⟩ := HQ0w1.out.c2 0 1 rfl rfl
   go_wp2_with fail
   clear cl2 cl3
   refine (good_any x0 y0 wl1).mono ?_
   rw [show vdC x0 y0 = 0 from vd_co HC0.out]
   rintro e w4 ⟨rfl, hb⟩
   have HB4 := hJ hb
   clear hb
   have HC0_2 := hJ (bt HB1.out HB4.out)
   go_wp2_with fail
   go_roundw
   case rel => exact ⟨0 + 1, by omega, by go_num, HC0_2.out⟩
   case measure => simp [intOf] <;> omega
  ·(try rw [show ((1 : Nat) : Int) = 1 from rfl])
   have HQ0w1 := hJ (BX.new HQ0.out HB1.out)
   obtain ⟨cl5, cl6⟩ := HQ0w1.out.c2 2 3 rfl rfl
   go_wp2_with fail
   clear cl5 cl6
   refine (good_any x1 y1 wl1).mono ?_
   rw [show vdC x1 y1 = 0 from vd_co HC1.out]
   rintro e w7 ⟨rfl, hb⟩
   have HB7 := hJ hb
   clear hb
   have HC0_2 := hJ (bt HB1.out HB7.out)
   go_wp2_with fail
   go_roundw
   case rel => exact ⟨1 + 1, by omega, by go_num, HC0_2.out⟩
   case measure => simp [intOf] <;> omega
  ·(try rw [show ((2 : Nat) : Int) = 2 from rfl])
   have HQ0w1 := hJ (BX.new HQ0.out HB1.out)
   obtain ⟨cl8, cl9⟩ := HQ0w1.out.c2 4 5 rfl rfl
   go_wp2_with fail
   clear cl8 cl9
   refine (good_any x2 y2 wl1).mono ?_
   rw [show vdC x2 y2 = 0 from vd_co HC2.out]
   rintro e w10 ⟨rfl, hb⟩
   have HB10 := hJ hb
   clear hb
   have HC0_2 := hJ (bt HB1.out HB10.out)
   go_wp2_with fail
   go_roundw
   case rel => exact ⟨2 + 1, by omega, by go_num, HC0_2.out⟩
   case measure => simp [intOf] <;> omega
  ·(try rw [show ((3 : Nat) : Int) = 3 from rfl])
   have HQ0w1 := hJ (BX.new HQ0.out HB1.out)
   obtain ⟨cl11, cl12⟩ := HQ0w1.out.c2 6 7 rfl rfl
   go_wp2_with fail
   clear cl11 cl12
   refine (good_any x3 y3 wl1).mono ?_
   rw [show vdC x3 y3 = 0 from vd_co HC3.out]
   rintro e w13 ⟨rfl, hb⟩
   have HB13 := hJ hb
   clear hb
   have HC0_2 := hJ (bt HB1.out HB13.out)
   go_wp2_with fail
   go_roundw
   case rel => exact ⟨3 + 1, by omega, by go_num, HC0_2.out⟩
   case measure => simp [intOf] <;> omega
  ·(try rw [show ((4 : Nat) : Int) = 4 from rfl])
   go_wp2
   go_ret
   exact ⟨rfl, HB1.out⟩
set_option maxRecDepth 100000 in
set_option maxHeartbeats 6400000 in
theorem rcircle_any (ax ay bx by' cx cy dx dy : Int) (w : World) (ha : Co ax ∧ Co ay) (hb : Co bx ∧ Co by') (hc : Co cx ∧ Co cy) (hd : Co dx ∧ Co dy) :
  Calls Try.prog 9 #[.agg #[.int .i64 ax, .int .i64 ay], .agg #[.int .i64 bx, .int .i64 by'], .agg #[.int .i64 cx, .int .i64 cy], .agg #[.int .i64 dx, .int .i64 dy]] w fun e w' => e = .returned (.tuple #[.int .i64 (crV ax ay bx by' cx cy dx dy), .int .i64 (crE ax ay bx by' cx cy dx dy)]) ∧ Below w.heap.size w w' := by
 have HC0 := hJ ha
 have HC1 := hJ hb
 have HC2 := hJ hc
 have HC3 := hJ hd
 clear ha hb hc hd
 obtain ⟨b1, hb1⟩ := nmz (bx - ax)
 have Kb1 := hJ (show Nk 32 b1 by rw [← hb1]; exact co_nk HC1.out.1 HC0.out.1)
 have Eb1 := hJ hb1
 have Wb1 := hJ (show IntKind.i64.wrap (bx - ax) = b1 by rw [hb1]; exact i6_wrap (nk_i6 Kb1.out (by decide)))
 clear hb1
 obtain ⟨b2, hb2⟩ := nmz (by' - ay)
 have Kb2 := hJ (show Nk 32 b2 by rw [← hb2]; exact co_nk HC1.out.2 HC0.out.2)
 have Eb2 := hJ hb2
 have Wb2 := hJ (show IntKind.i64.wrap (by' - ay) = b2 by rw [hb2]; exact i6_wrap (nk_i6 Kb2.out (by decide)))
 clear hb2
 obtain ⟨c1, hc1⟩ := nmz (cx - ax)
 have Kc1 := hJ (show Nk 32 c1 by rw [← hc1]; exact co_nk HC2.out.1 HC0.out.1)
 have Ec1 := hJ hc1
 have Wc1 := hJ (show IntKind.i64.wrap (cx - ax) = c1 by rw [hc1]; exact i6_wrap (nk_i6 Kc1.out (by decide)))
 clear hc1
 obtain ⟨c2, hc2⟩ := nmz (cy - ay)
 have Kc2 := hJ (show Nk 32 c2 by rw [← hc2]; exact co_nk HC2.out.2 HC0.out.2)
 have Ec2 := hJ hc2
 have Wc2 := hJ (show IntKind.i64.wrap (cy - ay) = c2 by rw [hc2]; exact i6_wrap (nk_i6 Kc2.out (by decide)))
 clear hc2
 obtain ⟨d1, hd1⟩ := nmz (dx - ax)
 have Kd1 := hJ (show Nk 32 d1 by rw [← hd1]; exact co_nk HC3.out.1 HC0.out.1)
 have Ed1 := hJ hd1
 have Wd1 := hJ (show IntKind.i64.wrap (dx - ax) = d1 by rw [hd1]; exact i6_wrap (nk_i6 Kd1.out (by decide)))
 clear hd1
 obtain ⟨d2, hd2⟩ := nmz (dy - ay)
 have Kd2 := hJ (show Nk 32 d2 by rw [← hd2]; exact co_nk HC3.out.2 HC0.out.2)
 have Ed2 := hJ hd2
 have Wd2 := hJ (show IntKind.i64.wrap (dy - ay) = d2 by rw [hd2]; exact i6_wrap (nk_i6 Kd2.out (by decide)))
 clear hd2
 obtain ⟨S, hS⟩ := nmz (2 * ((b1 * c2) - (b2 * c1)))
 have KS := hJ (show Nk _ S by rw [← hS]; exact (nk_mul (show Nk 2 2 by unfold Nk; omega) (nk_sub (nk_mul Kb1.out Kc2.out) (nk_mul Kb2.out Kc1.out))))
 have ES := hJ hS
 have WS := hJ (show IntKind.i64.wrap (2 * ((b1 * c2) - (b2 * c1))) = S by rw [hS]; exact i6_wrap (nk_i6 KS.out (by decide)))
 clear hS
 obtain ⟨U, hU⟩ := nmz ((c2 * ((b1 * b1) + (b2 * b2))) - (b2 * ((c1 * c1) + (c2 * c2))))
 have KU := hJ (show Nk _ U by rw [← hU]; exact (nk_sub (nk_mul Kc2.out (nk_add (nk_mul Kb1.out Kb1.out) (nk_mul Kb2.out Kb2.out))) (nk_mul Kb2.out (nk_add (nk_mul Kc1.out Kc1.out) (nk_mul Kc2.out Kc2.out)))))
 have EU := hJ hU
 have WU := hJ (show IntKind.i64.wrap ((c2 * ((b1 * b1) + (b2 * b2))) - (b2 * ((c1 * c1) + (c2 * c2)))) = U by rw [hU]; exact i6_wrap (nk_i6 KU.out (by decide)))
 clear hU
 obtain ⟨X, hX⟩ := nmz ((b1 * ((c1 * c1) + (c2 * c2))) - (c1 * ((b1 * b1) + (b2 * b2))))
 have KX := hJ (show Nk _ X by rw [← hX]; exact (nk_sub (nk_mul Kb1.out (nk_add (nk_mul Kc1.out Kc1.out) (nk_mul Kc2.out Kc2.out))) (nk_mul Kc1.out (nk_add (nk_mul Kb1.out Kb1.out) (nk_mul Kb2.out Kb2.out)))))
 have EX := hJ hX
 have WX := hJ (show IntKind.i64.wrap ((b1 * ((c1 * c1) + (c2 * c2))) - (c1 * ((b1 * b1) + (b2 * b2)))) = X by rw [hX]; exact i6_wrap (nk_i6 KX.out (by decide)))
 clear hX
 obtain ⟨p, hp⟩ := nmz ((d1 * S) - U)
 have Kp := hJ (show Nk _ p by rw [← hp]; exact (nk_sub (nk_mul Kd1.out KS.out) KU.out))
 have Ep := hJ hp
 have Wp := hJ (show IntKind.i64.wrap ((d1 * S) - U) = p by rw [hp]; exact i6_wrap (nk_i6 Kp.out (by decide)))
 clear hp
 obtain ⟨q, hq⟩ := nmz ((d2 * S) - X)
 have Kq := hJ (show Nk _ q by rw [← hq]; exact (nk_sub (nk_mul Kd2.out KS.out) KX.out))
 have Eq := hJ hq
 have Wq := hJ (show IntKind.i64.wrap ((d2 * S) - X) = q by rw [hq]; exact i6_wrap (nk_i6 Kq.out (by decide)))
 clear hq
 obtain ⟨far, hfar⟩ := nmz ((p * p) + (q * q))
 have Kfar := hJ (show Nk _ far by rw [← hfar]; exact (nk_add (nk_mul Kp.out Kp.out) (nk_mul Kq.out Kq.out)))
 have Efar := hJ hfar
 have Wfar := hJ (show IntKind.i64.wrap ((p * p) + (q * q)) = far by rw [hfar]; exact i6_wrap (nk_i6 Kfar.out (by decide)))
 clear hfar
 obtain ⟨rad, hrad⟩ := nmz ((U * U) + (X * X))
 have Krad := hJ (show Nk _ rad by rw [← hrad]; exact (nk_add (nk_mul KU.out KU.out) (nk_mul KX.out KX.out)))
 have Erad := hJ hrad
 have Wrad := hJ (show IntKind.i64.wrap ((U * U) + (X * X)) = rad by rw [hrad]; exact i6_wrap (nk_i6 Krad.out (by decide)))
 clear hrad
 have HFR := hJ (show ciV ax ay bx by' cx cy dx dy = cmpI rad far by
  rw [ci_ref, Eb1.out, Eb2.out, Ec1.out, Ec2.out, Ed1.out, Ed2.out]
  unfold rcR rcF rcU rcW rcS
  rw [ES.out, EU.out, EX.out, Ep.out, Eq.out, Efar.out, Erad.out])
 have HSD := hJ (show (sdV ax ay bx by' cx cy = 0) = (S = 0) by
  rw [sd_sub, Eb1.out, Eb2.out, Ec1.out, Ec2.out, cm_zero]
  refine propext ?_
  rw [← ES.out]
  omega)
 have HE := hJ (fs_four (vd_co HC0.out) (vd_co HC1.out) (vd_co HC2.out) (vd_co HC3.out))
 obtain ⟨x1, hx1⟩ := nmz ((((w.alloc (.cells #[.int .i64 ax, .int .i64 ay] 25)).alloc (.cells #[.int .i64 bx, .int .i64 by'] 25)).alloc (.cells #[.int .i64 cx, .int .i64 cy] 25)).alloc (.cells #[.int .i64 dx, .int .i64 dy] 25))
 have HB1 := hJ (show Below w.heap.size w x1 by rw [← hx1]; exact (((((Below.refl _ _).alloc (Nat.le_refl _) _).alloc (by simp only [World.size_alloc]; omega) _).alloc (by simp only [World.size_alloc]; omega) _).alloc (by simp only [World.size_alloc]; omega) _))
 have HQ1x0 := hJ (show BX 25 x1 w.heap.size #[.int .i64 ax, .int .i64 ay] by rw [← hx1]; exact ((((BX.at rfl).alloc _).alloc _).alloc _))
 have HG1x0 := hJ (show w.heap.size ≤ w.heap.size by omega)
 have HL1x0 := hJ (show w.heap.size < x1.heap.size from HQ1x0.out.lt)
 have HQ1x1 := hJ (show BX 25 x1 (w.heap.size + 1) #[.int .i64 bx, .int .i64 by'] by rw [← hx1]; exact (((BX.at (by simp only [World.size_alloc])).alloc _).alloc _))
 have HG1x1 := hJ (show w.heap.size ≤ w.heap.size + 1 by omega)
 have HL1x1 := hJ (show w.heap.size + 1 < x1.heap.size from HQ1x1.out.lt)
 have HQ1x2 := hJ (show BX 25 x1 (w.heap.size + 2) #[.int .i64 cx, .int .i64 cy] by rw [← hx1]; exact ((BX.at (by simp only [World.size_alloc])).alloc _))
 have HG1x2 := hJ (show w.heap.size ≤ w.heap.size + 2 by omega)
 have HL1x2 := hJ (show w.heap.size + 2 < x1.heap.size from HQ1x2.out.lt)
 have HQ1x3 := hJ (show BX 25 x1 (w.heap.size + 3) #[.int .i64 dx, .int .i64 dy] by rw [← hx1]; exact (BX.at (by simp only [World.size_alloc])))
 have HG1x3 := hJ (show w.heap.size ≤ w.heap.size + 3 by omega)
 have HL1x3 := hJ (show w.heap.size + 3 < x1.heap.size from HQ1x3.out.lt)
 obtain ⟨cl2, cl3⟩ := HQ1x0.out.c2 0 1 rfl rfl
 obtain ⟨cl4, cl5⟩ := HQ1x1.out.c2 0 1 rfl rfl
 obtain ⟨cl6, cl7⟩ := HQ1x2.out.c2 0 1 rfl rfl
 obtain ⟨cl8, cl9⟩ := HQ1x3.out.c2 0 1 rfl rfl
 obtain ⟨x10, hx10⟩ := nmz (x1.alloc (.cells #[.int .i64 ax, .int .i64 ay, .int .i64 bx, .int .i64 by', .int .i64 cx, .int .i64 cy, .int .i64 dx, .int .i64 dy] 25))
 have HB10 := hJ (show Below x1.heap.size x1 x10 by rw [← hx10]; exact ((Below.refl _ _).alloc (Nat.le_refl _) _))
 have HQ10x0 := hJ (show BX 25 x10 x1.heap.size #[.int .i64 ax, .int .i64 ay, .int .i64 bx, .int .i64 by', .int .i64 cx, .int .i64 cy, .int .i64 dx, .int .i64 dy] by rw [← hx10]; exact (BX.at rfl))
 have HG10x0 := hJ (show x1.heap.size ≤ x1.heap.size by omega)
 have HL10x0 := hJ (show x1.heap.size < x10.heap.size from HQ10x0.out.lt)
 go_enter Try.func9, Try.ntmps9
 go_wp2_with fail
 clear hx1 cl2 cl3 cl4 cl5 cl6 cl7 cl8 cl9 hx10
 refine (rvalid4_any ax ay bx by' cx cy dx dy x1.heap.size x10 HQ10x0.out HC0.out HC1.out HC2.out HC3.out).mono ?_
 rintro e w11 ⟨rfl, hb⟩
 have HB11 := hJ hb
 clear hb
 have HC1_3 := hJ (bt HB10.out HB11.out)
 have HQ1x1w3 := hJ (BX.new HQ1x1.out HC1_3.out)
 have cl12 := HQ1x1w3.out.cell 0 rfl
 have HQ1x0w3 := hJ (BX.new HQ1x0.out HC1_3.out)
 have cl13 := HQ1x0w3.out.cell 0 rfl
 have ew3_4 := Wb1.out
 have cl14 := HQ1x1w3.out.cell 1 rfl
 have cl15 := HQ1x0w3.out.cell 1 rfl
 have ew4_4 := Wb2.out
 have HQ1x2w3 := hJ (BX.new HQ1x2.out HC1_3.out)
 have cl16 := HQ1x2w3.out.cell 0 rfl
 have cl17 := HQ1x0w3.out.cell 0 rfl
 have ew5_4 := Wc1.out
 have cl18 := HQ1x2w3.out.cell 1 rfl
 have cl19 := HQ1x0w3.out.cell 1 rfl
 have ew6_4 := Wc2.out
 have ew7_2 : IntKind.i64.wrap (b1 * c2) = b1 * c2 := i6_wrap (nk_i6 (nk_mul Kb1.out Kc2.out) (by decide))
 have ew7_5 : IntKind.i64.wrap (b2 * c1) = b2 * c1 := i6_wrap (nk_i6 (nk_mul Kb2.out Kc1.out) (by decide))
 have ew7_6 : IntKind.i64.wrap ((b1 * c2) - (b2 * c1)) = (b1 * c2) - (b2 * c1) := i6_wrap (nk_i6 (nk_sub (nk_mul Kb1.out Kc2.out) (nk_mul Kb2.out Kc1.out)) (by decide))
 have ew7_7 := WS.out
 by_cases hS : S = 0
 ·have hSz : (S == 0) = true := by simp [hS]
  have HV := hJ (show crV ax ay bx by' cx cy dx dy = 0 ∧ crE ax ay bx by' cx cy dx dy = 1 from cr_flat HE.out (by rw [HSD.out]; exact hS))
  clear hS
  have HC0_3 := hJ (bt (bt HB1.out HB10.out) HB11.out)
  go_wp2
  clear cl12 cl13 ew3_4 cl14 cl15 ew4_4 cl16 cl17 ew5_4 cl18 cl19 ew6_4 ew7_2 ew7_5 ew7_6 ew7_7
  go_ret2
  exact ⟨by rw [HV.out.1, HV.out.2] <;> rfl, HC0_3.out⟩
 ·have hSz : (S == 0) = false := by simp [hS]
  have HV := hJ (show crV ax ay bx by' cx cy dx dy = cmpI rad far ∧ crE ax ay bx by' cx cy dx dy = 0 from ⟨by rw [crV, if_pos HE.out, HFR.out], by rw [crE, if_pos HE.out, if_neg (by rw [HSD.out]; exact hS)]⟩)
  clear hS
  have ew10_3 : IntKind.i64.wrap (b1 * b1) = b1 * b1 := i6_wrap (nk_i6 (nk_mul Kb1.out Kb1.out) (by decide))
  have ew10_6 : IntKind.i64.wrap (b2 * b2) = b2 * b2 := i6_wrap (nk_i6 (nk_mul Kb2.out Kb2.out) (by decide))
  have ew10_7 : IntKind.i64.wrap ((b1 * b1) + (b2 * b2)) = (b1 * b1) + (b2 * b2) := i6_wrap (nk_i6 (nk_add (nk_mul Kb1.out Kb1.out) (nk_mul Kb2.out Kb2.out)) (by decide))
  have ew10_8 : IntKind.i64.wrap (c2 * ((b1 * b1) + (b2 * b2))) = c2 * ((b1 * b1) + (b2 * b2)) := i6_wrap (nk_i6 (nk_mul Kc2.out (nk_add (nk_mul Kb1.out Kb1.out) (nk_mul Kb2.out Kb2.out))) (by decide))
  have ew10_12 : IntKind.i64.wrap (c1 * c1) = c1 * c1 := i6_wrap (nk_i6 (nk_mul Kc1.out Kc1.out) (by decide))
  have ew10_15 : IntKind.i64.wrap (c2 * c2) = c2 * c2 := i6_wrap (nk_i6 (nk_mul Kc2.out Kc2.out) (by decide))
  have ew10_16 : IntKind.i64.wrap ((c1 * c1) + (c2 * c2)) = (c1 * c1) + (c2 * c2) := i6_wrap (nk_i6 (nk_add (nk_mul Kc1.out Kc1.out) (nk_mul Kc2.out Kc2.out)) (by decide))
  have ew10_17 : IntKind.i64.wrap (b2 * ((c1 * c1) + (c2 * c2))) = b2 * ((c1 * c1) + (c2 * c2)) := i6_wrap (nk_i6 (nk_mul Kb2.out (nk_add (nk_mul Kc1.out Kc1.out) (nk_mul Kc2.out Kc2.out))) (by decide))
  have ew10_18 := WU.out
  have ew11_3 : IntKind.i64.wrap (c1 * c1) = c1 * c1 := i6_wrap (nk_i6 (nk_mul Kc1.out Kc1.out) (by decide))
  have ew11_6 : IntKind.i64.wrap (c2 * c2) = c2 * c2 := i6_wrap (nk_i6 (nk_mul Kc2.out Kc2.out) (by decide))
  have ew11_7 : IntKind.i64.wrap ((c1 * c1) + (c2 * c2)) = (c1 * c1) + (c2 * c2) := i6_wrap (nk_i6 (nk_add (nk_mul Kc1.out Kc1.out) (nk_mul Kc2.out Kc2.out)) (by decide))
  have ew11_8 : IntKind.i64.wrap (b1 * ((c1 * c1) + (c2 * c2))) = b1 * ((c1 * c1) + (c2 * c2)) := i6_wrap (nk_i6 (nk_mul Kb1.out (nk_add (nk_mul Kc1.out Kc1.out) (nk_mul Kc2.out Kc2.out))) (by decide))
  have ew11_12 : IntKind.i64.wrap (b1 * b1) = b1 * b1 := i6_wrap (nk_i6 (nk_mul Kb1.out Kb1.out) (by decide))
  have ew11_15 : IntKind.i64.wrap (b2 * b2) = b2 * b2 := i6_wrap (nk_i6 (nk_mul Kb2.out Kb2.out) (by decide))
  have ew11_16 : IntKind.i64.wrap ((b1 * b1) + (b2 * b2)) = (b1 * b1) + (b2 * b2) := i6_wrap (nk_i6 (nk_add (nk_mul Kb1.out Kb1.out) (nk_mul Kb2.out Kb2.out)) (by decide))
  have ew11_17 : IntKind.i64.wrap (c1 * ((b1 * b1) + (b2 * b2))) = c1 * ((b1 * b1) + (b2 * b2)) := i6_wrap (nk_i6 (nk_mul Kc1.out (nk_add (nk_mul Kb1.out Kb1.out) (nk_mul Kb2.out Kb2.out))) (by decide))
  have ew11_18 := WX.out
  have HQ1x3w3 := hJ (BX.new HQ1x3.out HC1_3.out)
  have cl20 := HQ1x3w3.out.cell 0 rfl
  have cl21 := HQ1x0w3.out.cell 0 rfl
  have ew12_4 := Wd1.out
  have ew12_6 : IntKind.i64.wrap (d1 * S) = d1 * S := i6_wrap (nk_i6 (nk_mul Kd1.out KS.out) (by decide))
  have ew12_8 := Wp.out
  have cl22 := HQ1x3w3.out.cell 1 rfl
  have cl23 := HQ1x0w3.out.cell 1 rfl
  have ew13_4 := Wd2.out
  have ew13_6 : IntKind.i64.wrap (d2 * S) = d2 * S := i6_wrap (nk_i6 (nk_mul Kd2.out KS.out) (by decide))
  have ew13_8 := Wq.out
  have ew14_2 : IntKind.i64.wrap (p * p) = p * p := i6_wrap (nk_i6 (nk_mul Kp.out Kp.out) (by decide))
  have ew14_5 : IntKind.i64.wrap (q * q) = q * q := i6_wrap (nk_i6 (nk_mul Kq.out Kq.out) (by decide))
  have ew14_6 := Wfar.out
  have ew15_2 : IntKind.i64.wrap (U * U) = U * U := i6_wrap (nk_i6 (nk_mul KU.out KU.out) (by decide))
  have ew15_5 : IntKind.i64.wrap (X * X) = X * X := i6_wrap (nk_i6 (nk_mul KX.out KX.out) (by decide))
  have ew15_6 := Wrad.out
  rcases (show far < rad ∨ rad < far ∨ far = rad by omega) with q1 | q1 | q1
  ·have HV2 := hJ (show cmpI rad far = 1 from cm_more q1)
   have HC0_3 := hJ (bt (bt HB1.out HB10.out) HB11.out)
   go_wp2
   clear cl12 cl13 ew3_4 cl14 cl15 ew4_4 cl16 cl17 ew5_4 cl18 cl19 ew6_4 ew7_2 ew7_5 ew7_6 ew7_7 ew10_3 ew10_6 ew10_7 ew10_8 ew10_12 ew10_15 ew10_16 ew10_17 ew10_18 ew11_3 ew11_6 ew11_7 ew11_8 ew11_12 ew11_15 ew11_16 ew11_17 ew11_18 cl20 cl21 ew12_4 ew12_6 ew12_8 cl22 cl23 ew13_4 ew13_6 ew13_8 ew14_2 ew14_5 ew14_6 ew15_2 ew15_5 ew15_6
   go_ret2
   exact ⟨by rw [HV.out.1, HV.out.2, HV2.out] <;> rfl, HC0_3.out⟩
  ·have HV2 := hJ (show cmpI rad far = -1 from cm_less q1)
   have HC0_3 := hJ (bt (bt HB1.out HB10.out) HB11.out)
   go_wp2
   clear cl12 cl13 ew3_4 cl14 cl15 ew4_4 cl16 cl17 ew5_4 cl18 cl19 ew6_4 ew7_2 ew7_5 ew7_6 ew7_7 ew10_3 ew10_6 ew10_7 ew10_8 ew10_12 ew10_15 ew10_16 ew10_17 ew10_18 ew11_3 ew11_6 ew11_7 ew11_8 ew11_12 ew11_15 ew11_16 ew11_17 ew11_18 cl20 cl21 ew12_4 ew12_6 ew12_8 cl22 cl23 ew13_4 ew13_6 ew13_8 ew14_2 ew14_5 ew14_6 ew15_2 ew15_5 ew15_6
   go_ret2
   exact ⟨by rw [HV.out.1, HV.out.2, HV2.out] <;> rfl, HC0_3.out⟩
  ·have HV2 := hJ (show cmpI rad far = 0 from cm_same q1.symm)
   have q2 : far ≤ rad := by omega
   have q3 : rad ≤ far := by omega
   clear q1
   have HC0_3 := hJ (bt (bt HB1.out HB10.out) HB11.out)
   go_wp2
   clear cl12 cl13 ew3_4 cl14 cl15 ew4_4 cl16 cl17 ew5_4 cl18 cl19 ew6_4 ew7_2 ew7_5 ew7_6 ew7_7 ew10_3 ew10_6 ew10_7 ew10_8 ew10_12 ew10_15 ew10_16 ew10_17 ew10_18 ew11_3 ew11_6 ew11_7 ew11_8 ew11_12 ew11_15 ew11_16 ew11_17 ew11_18 cl20 cl21 ew12_4 ew12_6 ew12_8 cl22 cl23 ew13_4 ew13_6 ew13_8 ew14_2 ew14_5 ew14_6 ew15_2 ew15_5 ew15_6
   go_ret2
   exact ⟨by rw [HV.out.1, HV.out.2, HV2.out] <;> rfl, HC0_3.out⟩
end Go.Proofs.Ytdamadkhbeonaaa
