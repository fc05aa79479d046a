/- Contracts: the product with a row of any capacity, power and Pow for the exponent 3, the law's example. Conditions: as each statement has them. -/
import Derived.Test.YtbhnaffbgggabaaGreatAL
import Derived.Test.YtbhnaffbgggabaaGreatAA
import Derived.Test.YtbhnaffbgggabaaGreatAE
namespace Go.Proofs.YtbhnaffbgggabaaGreat
open Go.RowKit
attribute [local go_sem ↓] Go.wp_at_zero Go.wp_at_succ
set_option linter.unusedVariables false
set_option linter.unusedSimpArgs false
theorem stop_here {p : Prop} (h : ∀ q : Prop, Hid (q = p) → q) : p := h p (hJ rfl)
theorem t_dig {n : Nat} (h : n < 10) : decI (n : Int) = [dig8 n] := by
 unfold decI
 rw [if_neg (by omega), Int.natAbs_natCast]
 exact dec_lt h
theorem ft_34 : fracT (-3) 4 = [45, 51, 47, 52] := by
 have e1 : decI (-3) = [45, 51] := by
  rw [decI, if_pos (by decide), show (-3 : Int).natAbs = 3 from rfl, dec_lt (by decide)]
  rfl
 unfold fracT
 rw [if_neg (by decide), e1, show (4 : Int) = ((4 : Nat) : Int) from rfl, t_dig (by decide)]
 rfl
theorem ft_56 : fracT 5 6 = [53, 47, 54] := by
 unfold fracT
 rw [if_neg (by decide), show (5 : Int) = ((5 : Nat) : Int) from rfl, t_dig (by decide), show (6 : Int) = ((6 : Nat) : Int) from rfl, t_dig (by decide)]
 rfl
theorem ft_827 : fracT 8 27 = [56, 47, 50, 55] := by
 have e1 : decI 27 = [50, 55] := by
  rw [decI, if_neg (by decide), show (27 : Int).natAbs = 27 from rfl, dec_ge (by decide), dec_lt (by decide)]
  rfl
 unfold fracT
 rw [if_neg (by decide), e1, show (8 : Int) = ((8 : Nat) : Int) from rfl, t_dig (by decide)]
 rfl
theorem ps_dig {n : Nat} (h : n < 10) : psV [dig8 n] = (n : Int) ∧ psC [dig8 n] = 0 := by
 have hl : (n : Int).natAbs < lim := i64_lim (WalkArith.wf_i64 ⟨by omega, by omega⟩)
 have e := ps_decI (lim_big hl)
 rw [t_dig h, in_lim hl |>.1, in_lim hl |>.2] at e
 exact e
theorem fq_24 : fqP [50, 47, 52] = 0 ∧ fqQ [50, 47, 52] = 1 ∧ fqC [50, 47, 52] = 2 := by
 have h := fq_bad (a := [50]) (b := [52]) (by decide) (fun k => by
  have e1 : psV [50] = 2 := (ps_dig (n := 2) (by decide)).1
  have e2 : psV [52] = 4 := (ps_dig (n := 4) (by decide)).1
  have := k.2.2.2.2
  rw [e1, e2] at this
  exact absurd this (by decide))
 exact h
theorem fq_31 : fqP [51, 47, 49] = 0 ∧ fqQ [51, 47, 49] = 1 ∧ fqC [51, 47, 49] = 2 := by
 have h := fq_bad (a := [51]) (b := [49]) (by decide) (fun k => k.2.2.2.1 (ps_dig (n := 1) (by decide)).1)
 exact h
theorem ad_half : adP 1 2 1 3 = 5 ∧ adQ 1 2 1 3 = 6 ∧ adC 1 2 1 3 = 0 := by
 have hk : adK 1 2 1 3 := ⟨i64_lim (x := 1 * (3 / adG 2 3)) (by decide), i64_lim (x := 1 * (2 / adG 2 3)) (by decide), i64_lim (x := adN 1 2 1 3) (by decide), i64_lim (x := adD 2 3) (by decide)⟩
 exact ⟨(if_pos hk).trans (by decide), (if_pos hk).trans (by decide), if_pos hk⟩
theorem ad_two : adP 1 1 (-1) 3 = 2 ∧ adQ 1 1 (-1) 3 = 3 ∧ adC 1 1 (-1) 3 = 0 := by
 have hk : adK 1 1 (-1) 3 := ⟨i64_lim (x := 1 * (3 / adG 1 3)) (by decide), i64_lim (x := -1 * (1 / adG 1 3)) (by decide), i64_lim (x := adN 1 1 (-1) 3) (by decide), i64_lim (x := adD 1 3) (by decide)⟩
 exact ⟨(if_pos hk).trans (by decide), (if_pos hk).trans (by decide), if_pos hk⟩
theorem fr_m3_4 : Fr (-3) 4 := ⟨⟨by decide, by decide⟩, i64_lim (x := (-3)) (by decide), i64_lim (x := 4) (by decide)⟩
theorem fr_1_2 : Fr 1 2 := ⟨⟨by decide, by decide⟩, i64_lim (x := 1) (by decide), i64_lim (x := 2) (by decide)⟩
theorem fr_1_3 : Fr 1 3 := ⟨⟨by decide, by decide⟩, i64_lim (x := 1) (by decide), i64_lim (x := 3) (by decide)⟩
theorem fr_5_6 : Fr 5 6 := ⟨⟨by decide, by decide⟩, i64_lim (x := 5) (by decide), i64_lim (x := 6) (by decide)⟩
theorem fr_2_3 : Fr 2 3 := ⟨⟨by decide, by decide⟩, i64_lim (x := 2) (by decide), i64_lim (x := 3) (by decide)⟩
theorem fr_8_27 : Fr 8 27 := ⟨⟨by decide, by decide⟩, i64_lim (x := 8) (by decide), i64_lim (x := 27) (by decide)⟩
set_option maxRecDepth 100000 in
set_option maxHeartbeats 1600000 in
theorem len64_3 (w : World) : Calls Tryz.prog 240 #[.int .u64 3] w fun e w' => e = .returned (.int .i64 2) ∧ w = w' := by
 go_enter Tryz.func240, Tryz.ntmps240
 go_wp2
 go_ret
 exact ⟨by first | kernel_rfl | rfl, rfl⟩
set_option maxRecDepth 100000 in
set_option maxHeartbeats 1600000 in
theorem len_3 (w : World) : Calls Tryz.prog 219 #[.int .u64 3] w fun e w' => e = .returned (.int .i64 2) ∧ w = w' := by
 go_enter Tryz.func219, Tryz.ntmps219
 go_wp2_with fail
 refine (len64_3 w).mono ?_
 rintro e w1 ⟨rfl, rfl⟩
 go_wp2
 go_ret
 exact ⟨rfl, rfl⟩
theorem pel_row {w : World} {B : Nat} {s0 s1 : Bool} {A0 A1 : Option Addr} {n0 c0 n1 c1 : Nat} {x y : Int} (h0 : w.cell? ⟨B, 0, none⟩ = some (.bool s0)) (h1 : w.cell? ⟨B, 1, none⟩ = some (.slice A0 n0 c0)) (h2 : w.cell? ⟨B, 2, none⟩ = some (.bool s1)) (h3 : w.cell? ⟨B, 3, none⟩ = some (.slice A1 n1 c1)) (hx : PI w s0 A0 n0 c0 x) (hy : PI w s1 A1 n1 c1 y) (lx : x.natAbs < lim) (ly : y.natAbs < lim) : Pel w B [x, y] := by
 intro i hi
 match i, hi with
 | 0, _ => exact ⟨s0, A0, n0, c0, h0, h1, hx, lx⟩
 | 1, _ => exact ⟨s1, A1, n1, c1, h2, h3, hy, ly⟩
theorem codes_row {w : World} {B : Nat} {a b : Int} (h0 : w.cell? ⟨B, 0, none⟩ = some (.int .i64 a)) (h1 : w.cell? ⟨B, 1, none⟩ = some (.int .i64 b)) : Codes w B [a, b] := by
 intro i hi
 match i, hi with
 | 0, _ => exact h0
 | 1, _ => exact h1
def pw3 (x : Int) (i : Nat) : Int := if i = 0 then 1 else if i = 1 then x else x * x * x
theorem pw3_ok {x : Int} (h : x = 2 ∨ x = 3) : (x.natAbs < lim) ∧ (pvV 1 [1, x] = x ∧ pvC 1 [1, x] = 0) ∧ (pvV x [x, x] = x * x * x ∧ pvC x [x, x] = 0) := by
 have l1 : ((1 : Int) * 1).natAbs < lim := i64_lim (by decide)
 rcases h with rfl | rfl
 ·have l2 : ((1 : Int) * 1 * 2).natAbs < lim := i64_lim (by decide)
  have l3 : ((2 : Int) * 2).natAbs < lim := i64_lim (by decide)
  have l4 : ((2 : Int) * 2 * 2).natAbs < lim := i64_lim (by decide)
  exact ⟨i64_lim (by decide), ⟨by simp only [pvV, if_pos l1, if_pos l2]; rfl, by simp only [pvC, if_pos l1, if_pos l2]⟩, ⟨by simp only [pvV, if_pos l3, if_pos l4], by simp only [pvC, if_pos l3, if_pos l4]⟩⟩
 ·have l2 : ((1 : Int) * 1 * 3).natAbs < lim := i64_lim (by decide)
  have l3 : ((3 : Int) * 3).natAbs < lim := i64_lim (by decide)
  have l4 : ((3 : Int) * 3 * 3).natAbs < lim := i64_lim (by decide)
  exact ⟨i64_lim (by decide), ⟨by simp only [pvV, if_pos l1, if_pos l2]; rfl, by simp only [pvC, if_pos l1, if_pos l2]⟩, ⟨by simp only [pvV, if_pos l3, if_pos l4], by simp only [pvC, if_pos l3, if_pos l4]⟩⟩
set_option maxRecDepth 100000 in
set_option maxHeartbeats 1600000 in
theorem fpower3_any (x : Int) (s0 : Bool) (A0 : Option Addr) (n0 c0 : Nat) (w : World) (hx : PI w s0 A0 n0 c0 x) (h : x = 2 ∨ x = 3) :
  Calls Tryz.prog 175 #[.agg #[.bool s0, .slice A0 n0 c0], .int .i64 3] w (RetPE (x * x * x) 0 w) := by
 have HP0 := hJ hx
 have HK := hJ (pw3_ok h)
 clear hx h
 obtain ⟨x1, hx1⟩ := nmz ((w.alloc (.cells #[.bool s0, .slice A0 n0 c0] 33)).alloc (.cells #[.bool false, .slice none 0 0] 33))
 have HB1 := hJ (show Below w.heap.size w x1 by rw [← hx1]; exact (((Below.refl _ _).alloc (Nat.le_refl _) _).alloc (by simp only [World.size_alloc]; omega) _))
 have HQ1x0 := hJ (show BX 33 x1 w.heap.size #[.bool s0, .slice A0 n0 c0] by rw [← hx1]; exact ((BX.at rfl).alloc _))
 have HG1x0 := hJ (show w.heap.size ≤ w.heap.size by omega)
 have HL1x0 := hJ (show w.heap.size < x1.heap.size from HQ1x0.out.lt)
 have HQ1x1 := hJ (show BX 33 x1 (w.heap.size + 1) #[.bool false, .slice none 0 0] by rw [← hx1]; exact (BX.at (by simp only [World.size_alloc])))
 have HG1x1 := hJ (show w.heap.size ≤ w.heap.size + 1 by omega)
 have HL1x1 := hJ (show w.heap.size + 1 < x1.heap.size from HQ1x1.out.lt)
 go_enter Tryz.func175, Tryz.ntmps175
 go_wp2_with fail
 clear hx1
 refine (from_any 1 x1 (by decide)).mono ?_
 rintro e w2 ⟨s11, A11, n11, c11, rfl, hr11, hb⟩
 have HB2 := hJ hb
 have HR2hr11 := hJ hr11
 clear hb hr11
 obtain ⟨x3, hx3⟩ := nmz (w2.alloc (.cells #[.bool s11, .slice A11 n11 c11] 33))
 have HB3 := hJ (show Below w2.heap.size w2 x3 by rw [← hx3]; exact ((Below.refl _ _).alloc (Nat.le_refl _) _))
 have HQ3x0 := hJ (show BX 33 x3 w2.heap.size #[.bool s11, .slice A11 n11 c11] by rw [← hx3]; exact (BX.at rfl))
 have HG3x0 := hJ (show w2.heap.size ≤ w2.heap.size by omega)
 have HL3x0 := hJ (show w2.heap.size < x3.heap.size from HQ3x0.out.lt)
 go_wp2_with fail
 clear hx3
 refine (len_3 x3).mono ?_
 rintro e w4 ⟨rfl, rfl⟩
 have HC0_2 := hJ (bt HB1.out HB2.out)
 have HR2hr11w3 := hJ (PIo.new HR2hr11.out HB3.out)
 go_wp2_with fail
 go_loopw [16] (fun tv wr => ∃ (i : Nat) (zb5_0_0 : Bool) (zA5_0_1 : Option Addr) (zn5_0_1 : Nat) (zc5_0_1 : Nat) (z5 : Int), i ≤ 2 ∧ tv = .int .i64 (i : Int) ∧ BX 33 wr w2.heap.size #[.bool zb5_0_0, .slice zA5_0_1 zn5_0_1 zc5_0_1] ∧ PI wr zb5_0_0 zA5_0_1 zn5_0_1 zc5_0_1 z5 ∧ Hid (z5 = pw3 x i) ∧ Below w2.heap.size w2 wr) (fun tv _ => 2 - (intOf tv).toNat)
 case atStart => exact ⟨0, s11, A11, n11, c11, 1, by omega, rfl, HQ3x0.out, HR2hr11w3.out, hJ (rfl), HB3.out⟩
 case round =>
  obtain ⟨i5, zb5_0_0, zA5_0_1, zn5_0_1, zc5_0_1, z5, hi, rfl, hz5_0, hz5_1, HI5, hbel⟩ := hrel
  obtain ⟨wl5, rfl⟩ : ∃ W : World, W = wr := ⟨_, rfl⟩
  have HBW5 := hJ hbel
  have HZ5_0 := hJ hz5_0
  have HZ5_1 := hJ hz5_1
  clear hbel hz5_0 hz5_1
  have HBX5_0 := hJ (bt HC0_2.out HBW5.out)
  have HBX5_1 := hJ (bt HB2.out HBW5.out)
  have HLW5_0 := hJ HZ5_0.out.lt
  have hcs : i5 = 0 ∨ i5 = 1 ∨ i5 = 2 := by omega
  clear hi
  rcases hcs with rfl | rfl | rfl
  ·(try rw [show ((0 : Nat) : Int) = 0 from rfl])
   obtain rfl : 1 = z5 := HI5.out.symm
   obtain ⟨cl6, cl7⟩ := HZ5_0.out.c2 0 1 rfl rfl
   obtain ⟨x8, hx8⟩ := nmz (wl5.alloc (.cells #[.bool zb5_0_0, .slice zA5_0_1 zn5_0_1 zc5_0_1] 33))
   have HB8 := hJ (show Below wl5.heap.size wl5 x8 by rw [← hx8]; exact ((Below.refl _ _).alloc (Nat.le_refl _) _))
   have HQ8x0 := hJ (show BX 33 x8 wl5.heap.size #[.bool zb5_0_0, .slice zA5_0_1 zn5_0_1 zc5_0_1] by rw [← hx8]; exact (BX.at rfl))
   have HG8x0 := hJ (show wl5.heap.size ≤ wl5.heap.size by omega)
   have HL8x0 := hJ (show wl5.heap.size < x8.heap.size from HQ8x0.out.lt)
   have HC1_5 := hJ (bt HBX5_1.out HB8.out)
   have HQ1x0w5 := hJ (BX.new HQ1x0.out HC1_5.out)
   obtain ⟨cl9, cl10⟩ := HQ1x0w5.out.c2 0 1 rfl rfl
   obtain ⟨x11, hx11⟩ := nmz (x8.alloc (.cells #[.bool s0, .slice A0 n0 c0] 33))
   have HB11 := hJ (show Below x8.heap.size x8 x11 by rw [← hx11]; exact ((Below.refl _ _).alloc (Nat.le_refl _) _))
   have HQ11x0 := hJ (show BX 33 x11 x8.heap.size #[.bool s0, .slice A0 n0 c0] by rw [← hx11]; exact (BX.at rfl))
   have HG11x0 := hJ (show x8.heap.size ≤ x8.heap.size by omega)
   have HL11x0 := hJ (show x8.heap.size < x11.heap.size from HQ11x0.out.lt)
   obtain ⟨i33, hi33, hz33, hs33, hy33⟩ := info_parts (show (Tryz.prog.info? 33).map (fun i => (i.zero, i.size, i.bytes)) = some (some (.agg #[.bool false, .slice none 0 0]), 2, 32) by kernel_rfl)
   have HT33 := hJ (And.intro hi33 (And.intro hz33 (And.intro hs33 hy33)))
   clear hi33 hz33 hs33 hy33
   have HQ8x0w6 := hJ (BX.new HQ8x0.out HB11.out)
   have HO12 := hJ (show OwnR noD x11 wl5.heap.size 33 2 (.slice (some ⟨wl5.heap.size, 0, none⟩) 1 1) 1 [.bool zb5_0_0, .slice zA5_0_1 zn5_0_1 zc5_0_1] from OwnR.of_lit HQ8x0w6.out HG8x0.out (by decide) rfl rfl)
   have HC4_6 := hJ (bt HB8.out HB11.out)
   go_wp2_with (at_builtin; refine wpList_append_okv noD rfl _ _ 225 rfl wl5.heap.size 33 i33 _ 2 32 Tryz.underlying225 HT33.out.1 HT33.out.2.1 HT33.out.2.2.1 HT33.out.2.2.2 rfl rfl (by decide) (.slice (some ⟨wl5.heap.size, 0, none⟩) 1 1) 1 [.bool zb5_0_0, .slice zA5_0_1 zn5_0_1 zc5_0_1] rfl HO12.out ⟨x8.heap.size, 0, none⟩ 1 1 [.bool s0, .slice A0 n0 c0] rfl rfl (BX.news HQ11x0.out) (List.all_eq_true (p := Value.oneCell')|>.1 rfl) rfl (by unfold maxLen; omega) (by omega) (HC4_6.out).size (by decide) ?_; intro va wa hown hgrow; refine stop_here (fun q HSTP => ?_))
   clear cl6 cl7 hx8 cl9 cl10 hx11
   rw [HSTP.out]
   clear HSTP q
   have hown : OwnR noD wa wl5.heap.size 33 2 va 2 [.bool zb5_0_0, .slice zA5_0_1 zn5_0_1 zc5_0_1, .bool s0, .slice A0 n0 c0] := hown
   obtain ⟨ga13, cp13, rfl, hg1, hg2, hcap, _⟩ := hown.row (by decide)
   obtain ⟨w13, rfl⟩ : ∃ W, W = wa := ⟨_, rfl⟩
   have HO13 := hJ (show OwnR noD w13 wl5.heap.size 33 2 (.slice (some ⟨ga13, 0, none⟩) 2 cp13) 2 [.bool zb5_0_0, .slice zA5_0_1 zn5_0_1 zc5_0_1, .bool s0, .slice A0 n0 c0] from hown)
   have HG13 := hJ hg1
   have HL13 := hJ hg2
   have HW13 := hJ hgrow
   have HN13 := hJ (show 2 ≤ cp13 from hcap)
   clear hown hg1 hg2 hgrow hcap
   have HC4_7 := hJ (show Below wl5.heap.size wl5 w13 from Grew.below HC4_6.out HW13.out HO12.out (Nat.le_refl _) (HC4_6.out).size)
   have HZ5_0w7 := hJ (BX.new HZ5_0.out HC4_7.out)
   obtain ⟨cl14, cl15⟩ := HZ5_0w7.out.c2 0 1 rfl rfl
   have HZ5_1w7 := hJ (PIo.new HZ5_1.out HC4_7.out)
   have HC0_7 := hJ (show Below w.heap.size w w13 from Grew.below (bt (bt HBX5_0.out HB8.out) HB11.out) HW13.out HO12.out (HBX5_0.out).size ((bt (bt HBX5_0.out HB8.out) HB11.out)).size)
   have HP0w7 := hJ (PIo.new HP0.out HC0_7.out)
   go_wp2_with fail
   clear cl14 cl15
   refine (fproductc_any [1, x] 1 zb5_0_0 zA5_0_1 zn5_0_1 zc5_0_1 ga13 2 cp13 w13 HZ5_1w7.out one_lim (pel_row (HO13.out.at 0 rfl) (HO13.out.at 1 rfl) (HO13.out.at 2 rfl) (HO13.out.at 3 rfl) HZ5_1w7.out HP0w7.out one_lim HK.out.1) (World.block_lt_of_cell? _ _ (HO13.out.at 0 rfl)) rfl (by decide)).mono ?_
   rw [HK.out.2.1.1, HK.out.2.1.2]
   rintro e w16 ⟨s12, A12, n12, c12, rfl, hr12, hb⟩
   have HB16 := hJ hb
   have HR16hr12 := hJ hr12
   clear hb hr12
   have HZ5_0w8 := hJ (BX.new HZ5_0w7.out HB16.out)
   have fz17_0 := HZ5_0w8.out.frozen 0
   have fc17_0 := HZ5_0w8.out.cell 0 rfl
   have fz17_1 := HZ5_0w8.out.frozen 1
   have fc17_1 := HZ5_0w8.out.cell 1 rfl
   obtain ⟨x17, hx17⟩ := nmz (World.setCell (World.setCell w16 ⟨w2.heap.size, 0, none⟩ (.bool s12)) ⟨w2.heap.size, 1, none⟩ (.slice A12 n12 c12))
   have HE17 := hJ (show sto w16 w2.heap.size 0 [.bool s12, .slice A12 n12 c12] = x17 from hx17)
   have HQ17s := hJ (show BX 33 x17 w2.heap.size #[.bool s12, .slice A12 n12 c12] by rw [← HE17.out]; exact BX.put HZ5_0w8.out _ _)
   have HR16hr12w9 := hJ (show PI x17 s12 A12 n12 c12 x by rw [← HE17.out]; exact PIo.sto HR16hr12.out HZ5_0w8.out rfl _ _)
   have HC2_7 := hJ (show Below w2.heap.size w2 w13 from Grew.below (bt (bt HBW5.out HB8.out) HB11.out) HW13.out HO12.out (HBW5.out).size ((bt (bt HBW5.out HB8.out) HB11.out)).size)
   have HC2_9 := hJ (show Below w2.heap.size w2 x17 by rw [← HE17.out]; exact below_sto (bt HC2_7.out HB16.out) HG3x0.out _ _)
   go_wp2_with fail
   clear fz17_0 fc17_0 fz17_1 fc17_1 hx17
   go_roundw
   case rel => exact ⟨0 + 1, s12, A12, n12, c12, x, by omega, by go_num, HQ17s.out, HR16hr12w9.out, hJ (rfl), HC2_9.out⟩
   case measure => simp [intOf] <;> omega
  ·(try rw [show ((1 : Nat) : Int) = 1 from rfl])
   obtain rfl : x = z5 := HI5.out.symm
   obtain ⟨cl18, cl19⟩ := HZ5_0.out.c2 0 1 rfl rfl
   obtain ⟨x20, hx20⟩ := nmz (wl5.alloc (.cells #[.bool zb5_0_0, .slice zA5_0_1 zn5_0_1 zc5_0_1] 33))
   have HB20 := hJ (show Below wl5.heap.size wl5 x20 by rw [← hx20]; exact ((Below.refl _ _).alloc (Nat.le_refl _) _))
   have HQ20x0 := hJ (show BX 33 x20 wl5.heap.size #[.bool zb5_0_0, .slice zA5_0_1 zn5_0_1 zc5_0_1] by rw [← hx20]; exact (BX.at rfl))
   have HG20x0 := hJ (show wl5.heap.size ≤ wl5.heap.size by omega)
   have HL20x0 := hJ (show wl5.heap.size < x20.heap.size from HQ20x0.out.lt)
   have HC1_5 := hJ (bt HBX5_1.out HB20.out)
   have HQ1x0w5 := hJ (BX.new HQ1x0.out HC1_5.out)
   obtain ⟨cl21, cl22⟩ := HQ1x0w5.out.c2 0 1 rfl rfl
   obtain ⟨x23, hx23⟩ := nmz (x20.alloc (.cells #[.bool s0, .slice A0 n0 c0] 33))
   have HB23 := hJ (show Below x20.heap.size x20 x23 by rw [← hx23]; exact ((Below.refl _ _).alloc (Nat.le_refl _) _))
   have HQ23x0 := hJ (show BX 33 x23 x20.heap.size #[.bool s0, .slice A0 n0 c0] by rw [← hx23]; exact (BX.at rfl))
   have HG23x0 := hJ (show x20.heap.size ≤ x20.heap.size by omega)
   have HL23x0 := hJ (show x20.heap.size < x23.heap.size from HQ23x0.out.lt)
   obtain ⟨i33, hi33, hz33, hs33, hy33⟩ := info_parts (show (Tryz.prog.info? 33).map (fun i => (i.zero, i.size, i.bytes)) = some (some (.agg #[.bool false, .slice none 0 0]), 2, 32) by kernel_rfl)
   have HT33 := hJ (And.intro hi33 (And.intro hz33 (And.intro hs33 hy33)))
   clear hi33 hz33 hs33 hy33
   have HQ20x0w6 := hJ (BX.new HQ20x0.out HB23.out)
   have HO24 := hJ (show OwnR noD x23 wl5.heap.size 33 2 (.slice (some ⟨wl5.heap.size, 0, none⟩) 1 1) 1 [.bool zb5_0_0, .slice zA5_0_1 zn5_0_1 zc5_0_1] from OwnR.of_lit HQ20x0w6.out HG20x0.out (by decide) rfl rfl)
   have HC4_6 := hJ (bt HB20.out HB23.out)
   go_wp2_with (at_builtin; refine wpList_append_okv noD rfl _ _ 225 rfl wl5.heap.size 33 i33 _ 2 32 Tryz.underlying225 HT33.out.1 HT33.out.2.1 HT33.out.2.2.1 HT33.out.2.2.2 rfl rfl (by decide) (.slice (some ⟨wl5.heap.size, 0, none⟩) 1 1) 1 [.bool zb5_0_0, .slice zA5_0_1 zn5_0_1 zc5_0_1] rfl HO24.out ⟨x20.heap.size, 0, none⟩ 1 1 [.bool s0, .slice A0 n0 c0] rfl rfl (BX.news HQ23x0.out) (List.all_eq_true (p := Value.oneCell')|>.1 rfl) rfl (by unfold maxLen; omega) (by omega) (HC4_6.out).size (by decide) ?_; intro va wa hown hgrow; refine stop_here (fun q HSTP => ?_))
   clear cl18 cl19 hx20 cl21 cl22 hx23
   rw [HSTP.out]
   clear HSTP q
   have hown : OwnR noD wa wl5.heap.size 33 2 va 2 [.bool zb5_0_0, .slice zA5_0_1 zn5_0_1 zc5_0_1, .bool s0, .slice A0 n0 c0] := hown
   obtain ⟨ga25, cp25, rfl, hg1, hg2, hcap, _⟩ := hown.row (by decide)
   obtain ⟨w25, rfl⟩ : ∃ W, W = wa := ⟨_, rfl⟩
   have HO25 := hJ (show OwnR noD w25 wl5.heap.size 33 2 (.slice (some ⟨ga25, 0, none⟩) 2 cp25) 2 [.bool zb5_0_0, .slice zA5_0_1 zn5_0_1 zc5_0_1, .bool s0, .slice A0 n0 c0] from hown)
   have HG25 := hJ hg1
   have HL25 := hJ hg2
   have HW25 := hJ hgrow
   have HN25 := hJ (show 2 ≤ cp25 from hcap)
   clear hown hg1 hg2 hgrow hcap
   have HC4_7 := hJ (show Below wl5.heap.size wl5 w25 from Grew.below HC4_6.out HW25.out HO24.out (Nat.le_refl _) (HC4_6.out).size)
   have HZ5_0w7 := hJ (BX.new HZ5_0.out HC4_7.out)
   obtain ⟨cl26, cl27⟩ := HZ5_0w7.out.c2 0 1 rfl rfl
   have HZ5_1w7 := hJ (PIo.new HZ5_1.out HC4_7.out)
   have HC0_7 := hJ (show Below w.heap.size w w25 from Grew.below (bt (bt HBX5_0.out HB20.out) HB23.out) HW25.out HO24.out (HBX5_0.out).size ((bt (bt HBX5_0.out HB20.out) HB23.out)).size)
   have HP0w7 := hJ (PIo.new HP0.out HC0_7.out)
   go_wp2_with fail
   clear cl26 cl27
   refine (fproductc_any [x, x] x zb5_0_0 zA5_0_1 zn5_0_1 zc5_0_1 ga25 2 cp25 w25 HZ5_1w7.out HK.out.1 (pel_row (HO25.out.at 0 rfl) (HO25.out.at 1 rfl) (HO25.out.at 2 rfl) (HO25.out.at 3 rfl) HZ5_1w7.out HP0w7.out HK.out.1 HK.out.1) (World.block_lt_of_cell? _ _ (HO25.out.at 0 rfl)) rfl (by decide)).mono ?_
   rw [HK.out.2.2.1, HK.out.2.2.2]
   rintro e w28 ⟨s13, A13, n13, c13, rfl, hr13, hb⟩
   have HB28 := hJ hb
   have HR28hr13 := hJ hr13
   clear hb hr13
   have HZ5_0w8 := hJ (BX.new HZ5_0w7.out HB28.out)
   have fz29_0 := HZ5_0w8.out.frozen 0
   have fc29_0 := HZ5_0w8.out.cell 0 rfl
   have fz29_1 := HZ5_0w8.out.frozen 1
   have fc29_1 := HZ5_0w8.out.cell 1 rfl
   obtain ⟨x29, hx29⟩ := nmz (World.setCell (World.setCell w28 ⟨w2.heap.size, 0, none⟩ (.bool s13)) ⟨w2.heap.size, 1, none⟩ (.slice A13 n13 c13))
   have HE29 := hJ (show sto w28 w2.heap.size 0 [.bool s13, .slice A13 n13 c13] = x29 from hx29)
   have HQ29s := hJ (show BX 33 x29 w2.heap.size #[.bool s13, .slice A13 n13 c13] by rw [← HE29.out]; exact BX.put HZ5_0w8.out _ _)
   have HR28hr13w9 := hJ (show PI x29 s13 A13 n13 c13 (x * x * x) by rw [← HE29.out]; exact PIo.sto HR28hr13.out HZ5_0w8.out rfl _ _)
   have HC2_7 := hJ (show Below w2.heap.size w2 w25 from Grew.below (bt (bt HBW5.out HB20.out) HB23.out) HW25.out HO24.out (HBW5.out).size ((bt (bt HBW5.out HB20.out) HB23.out)).size)
   have HC2_9 := hJ (show Below w2.heap.size w2 x29 by rw [← HE29.out]; exact below_sto (bt HC2_7.out HB28.out) HG3x0.out _ _)
   go_wp2_with fail
   clear fz29_0 fc29_0 fz29_1 fc29_1 hx29
   go_roundw
   case rel => exact ⟨1 + 1, s13, A13, n13, c13, (x * x * x), by omega, by go_num, HQ29s.out, HR28hr13w9.out, hJ (rfl), HC2_9.out⟩
   case measure => simp [intOf] <;> omega
  ·(try rw [show ((2 : Nat) : Int) = 2 from rfl])
   obtain rfl : (x * x * x) = z5 := HI5.out.symm
   obtain ⟨cl30, cl31⟩ := HZ5_0.out.c2 0 1 rfl rfl
   have HQ1x1w4 := hJ (BX.new HQ1x1.out HBX5_1.out)
   have fz32_0 := HQ1x1w4.out.frozen 0
   have fc32_0 := HQ1x1w4.out.cell 0 rfl
   have fz32_1 := HQ1x1w4.out.frozen 1
   have fc32_1 := HQ1x1w4.out.cell 1 rfl
   obtain ⟨x32, hx32⟩ := nmz (World.setCell (World.setCell wl5 ⟨w.heap.size + 1, 0, none⟩ (.bool zb5_0_0)) ⟨w.heap.size + 1, 1, none⟩ (.slice zA5_0_1 zn5_0_1 zc5_0_1))
   have HE32 := hJ (show sto wl5 (w.heap.size + 1) 0 [.bool zb5_0_0, .slice zA5_0_1 zn5_0_1 zc5_0_1] = x32 from hx32)
   have HQ32s := hJ (show BX 33 x32 (w.heap.size + 1) #[.bool zb5_0_0, .slice zA5_0_1 zn5_0_1 zc5_0_1] by rw [← HE32.out]; exact BX.put HQ1x1w4.out _ _)
   have HC0_5 := hJ (show Below w.heap.size w x32 by rw [← HE32.out]; exact below_sto HBX5_0.out HG1x1.out _ _)
   have HZ5_1w5 := hJ (show PI x32 zb5_0_0 zA5_0_1 zn5_0_1 zc5_0_1 (x * x * x) by rw [← HE32.out]; exact PIo.sto HZ5_1.out HQ1x1w4.out rfl _ _)
   go_wp2
   clear cl30 cl31 fz32_0 fc32_0 fz32_1 fc32_1 hx32
   exact bodyPost_ret (results_cell1 rfl _ _ _ _ _ _ _ rfl HQ32s.out Tryz.underlying33 rfl W_size) rfl ⟨zb5_0_0, zA5_0_1, zn5_0_1, zc5_0_1, rfl, HZ5_1w5.out, HC0_5.out⟩
set_option maxRecDepth 100000 in
set_option maxHeartbeats 1600000 in
theorem fpow3_any (s0 : Bool) (A0 : Option Addr) (n0 c0 : Nat) (t0 : Bool) (B0 : Option Addr) (m0 d0 : Nat) (w : World) (hx : PF w s0 A0 n0 c0 t0 B0 m0 d0 2 3) :
  Calls Tryz.prog 108 #[.agg #[.bool s0, .slice A0 n0 c0, .bool t0, .slice B0 m0 d0], .int .i64 3] w (RetFE 8 27 0 w) := by
 have HP0 := hJ hx
 clear hx
 obtain ⟨x1, hx1⟩ := nmz ((w.alloc (.cells #[.bool s0, .slice A0 n0 c0, .bool t0, .slice B0 m0 d0] 35)).alloc (.cells #[.bool false, .slice none 0 0, .bool false, .slice none 0 0] 35))
 have HB1 := hJ (show Below w.heap.size w x1 by rw [← hx1]; exact (((Below.refl _ _).alloc (Nat.le_refl _) _).alloc (by simp only [World.size_alloc]; omega) _))
 have HQ1x0 := hJ (show BX 35 x1 w.heap.size #[.bool s0, .slice A0 n0 c0, .bool t0, .slice B0 m0 d0] by rw [← hx1]; exact ((BX.at rfl).alloc _))
 have HG1x0 := hJ (show w.heap.size ≤ w.heap.size by omega)
 have HL1x0 := hJ (show w.heap.size < x1.heap.size from HQ1x0.out.lt)
 have HQ1x1 := hJ (show BX 35 x1 (w.heap.size + 1) #[.bool false, .slice none 0 0, .bool false, .slice none 0 0] by rw [← hx1]; exact (BX.at (by simp only [World.size_alloc])))
 have HG1x1 := hJ (show w.heap.size ≤ w.heap.size + 1 by omega)
 have HL1x1 := hJ (show w.heap.size + 1 < x1.heap.size from HQ1x1.out.lt)
 obtain ⟨cl2, cl3⟩ := HQ1x0.out.c2 0 1 rfl rfl
 have HP0w1 := hJ (PF.new HP0.out HB1.out)
 go_enter Tryz.func108, Tryz.ntmps108
 go_wp2_with fail
 clear hx1 cl2 cl3
 refine (fpower3_any 2 s0 A0 n0 c0 x1 HP0w1.out.1 (.inl rfl)).mono ?_
 rw [show ((2 : Int) * 2 * 2) = 8 from rfl]
 rintro e w4 ⟨s11, A11, n11, c11, rfl, hr11, hb⟩
 have HB4 := hJ hb
 have HR4hr11 := hJ hr11
 clear hb hr11
 obtain ⟨x5, hx5⟩ := nmz (w4.alloc (.cells #[.bool s11, .slice A11 n11 c11] 33))
 have HB5 := hJ (show Below w4.heap.size w4 x5 by rw [← hx5]; exact ((Below.refl _ _).alloc (Nat.le_refl _) _))
 have HQ5x0 := hJ (show BX 33 x5 w4.heap.size #[.bool s11, .slice A11 n11 c11] by rw [← hx5]; exact (BX.at rfl))
 have HG5x0 := hJ (show w4.heap.size ≤ w4.heap.size by omega)
 have HL5x0 := hJ (show w4.heap.size < x5.heap.size from HQ5x0.out.lt)
 have HC1_3 := hJ (bt HB4.out HB5.out)
 have HQ1x0w3 := hJ (BX.new HQ1x0.out HC1_3.out)
 obtain ⟨cl6, cl7, cl8, cl9⟩ := HQ1x0w3.out.c4 0 1 2 3 rfl rfl rfl rfl
 have HP0w3 := hJ (PF.new HP0w1.out HC1_3.out)
 go_wp2_with fail
 clear hx5 cl6 cl7 cl8 cl9
 refine (den_any 2 3 s0 t0 A0 B0 n0 c0 m0 d0 x5 HP0w3.out (Nat.le_trans (plim HP0w3.out.2 (dn_lim fr_2_3.2.2)) (by decide)) fr_2_3.1.1).mono ?_
 rintro e w10 ⟨s12, A12, n12, c12, rfl, hr12, hb⟩
 have HB10 := hJ hb
 have HR10hr12 := hJ hr12
 clear hb hr12
 go_wp2_with fail
 refine (fpower3_any 3 s12 A12 n12 c12 w10 HR10hr12.out (.inr rfl)).mono ?_
 rw [show ((3 : Int) * 3 * 3) = 27 from rfl]
 rintro e w11 ⟨s13, A13, n13, c13, rfl, hr13, hb⟩
 have HB11 := hJ hb
 have HR11hr13 := hJ hr13
 clear hb hr13
 obtain ⟨x12, hx12⟩ := nmz ((w11.alloc (.cells #[.bool s13, .slice A13 n13 c13] 33)).alloc (.cells #[.int .i64 0, .int .i64 0] 36))
 have HB12 := hJ (show Below w11.heap.size w11 x12 by rw [← hx12]; exact (((Below.refl _ _).alloc (Nat.le_refl _) _).alloc (by simp only [World.size_alloc]; omega) _))
 have HQ12x0 := hJ (show BX 33 x12 w11.heap.size #[.bool s13, .slice A13 n13 c13] by rw [← hx12]; exact ((BX.at rfl).alloc _))
 have HG12x0 := hJ (show w11.heap.size ≤ w11.heap.size by omega)
 have HL12x0 := hJ (show w11.heap.size < x12.heap.size from HQ12x0.out.lt)
 have HQ12x1 := hJ (show BX 36 x12 (w11.heap.size + 1) #[.int .i64 0, .int .i64 0] by rw [← hx12]; exact (BX.at (by simp only [World.size_alloc])))
 have HG12x1 := hJ (show w11.heap.size ≤ w11.heap.size + 1 by omega)
 have HL12x1 := hJ (show w11.heap.size + 1 < x12.heap.size from HQ12x1.out.lt)
 go_wp2_with fail
 clear hx12
 refine (ferror_any [0, 0] (w11.heap.size + 1) 2 x12 (codes_row (HQ12x1.out.cell 0 rfl) (HQ12x1.out.cell 1 rfl)) rfl (by decide)).mono ?_
 rw [show feV [0, 0] = 0 from rfl]
 rintro e w13 ⟨rfl, rfl⟩
 have HC3_6 := hJ (bt (bt HB10.out HB11.out) HB12.out)
 have HQ5x0w6 := hJ (BX.new HQ5x0.out HC3_6.out)
 obtain ⟨cl14, cl15⟩ := HQ5x0w6.out.c2 0 1 rfl rfl
 obtain ⟨cl16, cl17⟩ := HQ12x0.out.c2 0 1 rfl rfl
 have HC2_6 := hJ (bt (bt (bt HB5.out HB10.out) HB11.out) HB12.out)
 have HR4hr11w6 := hJ (PIo.new HR4hr11.out HC2_6.out)
 have HR11hr13w6 := hJ (PIo.new HR11hr13.out HB12.out)
 go_wp2_with fail
 clear cl14 cl15 cl16 cl17
 refine (flowest_any 8 27 s11 s13 A11 A13 n11 c11 n13 c13 x12 HR4hr11w6.out HR11hr13w6.out (Nat.le_trans (plim HR11hr13w6.out (i64_lim (by decide))) (by decide))).mono ?_
 rintro e w18 ⟨s14, A14, n14, c14, t14, B14, m14, d14, rfl, hr14, hb⟩
 have HB18 := hJ hb
 have HR18hr14 := hJ hr14
 clear hb hr14
 have HC1_7 := hJ (bt (bt (bt (bt HC1_3.out HB10.out) HB11.out) HB12.out) HB18.out)
 have HQ1x1w7 := hJ (BX.new HQ1x1.out HC1_7.out)
 have fz19_0 := HQ1x1w7.out.frozen 0
 have fc19_0 := HQ1x1w7.out.cell 0 rfl
 have fz19_1 := HQ1x1w7.out.frozen 1
 have fc19_1 := HQ1x1w7.out.cell 1 rfl
 have fz19_2 := HQ1x1w7.out.frozen 2
 have fc19_2 := HQ1x1w7.out.cell 2 rfl
 have fz19_3 := HQ1x1w7.out.frozen 3
 have fc19_3 := HQ1x1w7.out.cell 3 rfl
 obtain ⟨x19, hx19⟩ := nmz (World.setCell (World.setCell (World.setCell (World.setCell w18 ⟨w.heap.size + 1, 0, none⟩ (.bool s14)) ⟨w.heap.size + 1, 1, none⟩ (.slice A14 n14 c14)) ⟨w.heap.size + 1, 2, none⟩ (.bool t14)) ⟨w.heap.size + 1, 3, none⟩ (.slice B14 m14 d14))
 have HE19 := hJ (show sto w18 (w.heap.size + 1) 0 [.bool s14, .slice A14 n14 c14, .bool t14, .slice B14 m14 d14] = x19 from hx19)
 have HQ19s := hJ (show BX 35 x19 (w.heap.size + 1) #[.bool s14, .slice A14 n14 c14, .bool t14, .slice B14 m14 d14] by rw [← HE19.out]; exact BX.put HQ1x1w7.out _ _)
 have HC0_8 := hJ (show Below w.heap.size w x19 by rw [← HE19.out]; exact below_sto (bt (bt (bt (bt (bt (bt HB1.out HB4.out) HB5.out) HB10.out) HB11.out) HB12.out) HB18.out) HG1x1.out _ _)
 have HR18hr14w8 := hJ (show PF x19 s14 A14 n14 c14 t14 B14 m14 d14 8 27 by rw [← HE19.out]; exact PF.sto HR18hr14.out HQ1x1w7.out rfl _ _)
 go_wp2
 clear fz19_0 fc19_0 fz19_1 fc19_1 fz19_2 fc19_2 fz19_3 fc19_3 hx19
 exact bodyPost_ret (results_cell1 rfl _ _ _ _ _ _ _ rfl HQ19s.out Tryz.underlying35 rfl F_size) rfl ⟨s14, A14, n14, c14, t14, B14, m14, d14, rfl, HR18hr14w8.out, HC0_8.out⟩
set_option maxRecDepth 100000 in
set_option maxHeartbeats 1600000 in
theorem l4lives_any (w : World) :
  Calls Tryz.prog 29 #[] w fun e w' => e = .returned (.bool true) ∧ Below w.heap.size w w' := by
 go_enter Tryz.func29, Tryz.ntmps29
 go_wp2_with fail
 refine (fof_any 6 (-8) w (by decide) (by decide)).mono ?_
 rw [show mkP 6 (-8) = (-3) by decide, show mkQ 6 (-8) = 4 by decide, show mkC (-8) = 0 by decide]
 rintro e w1 ⟨s11, A11, n11, c11, t11, B11, m11, d11, rfl, hr11, hb⟩
 have HB1 := hJ hb
 have HR1hr11 := hJ hr11
 clear hb hr11
 obtain ⟨x2, hx2⟩ := nmz (w1.alloc (.cells #[.bool s11, .slice A11 n11 c11, .bool t11, .slice B11 m11 d11] 35))
 have HB2 := hJ (show Below w1.heap.size w1 x2 by rw [← hx2]; exact ((Below.refl _ _).alloc (Nat.le_refl _) _))
 have HQ2x0 := hJ (show BX 35 x2 w1.heap.size #[.bool s11, .slice A11 n11 c11, .bool t11, .slice B11 m11 d11] by rw [← hx2]; exact (BX.at rfl))
 have HG2x0 := hJ (show w1.heap.size ≤ w1.heap.size by omega)
 have HL2x0 := hJ (show w1.heap.size < x2.heap.size from HQ2x0.out.lt)
 go_wp2_with fail
 clear hx2
 refine (fof_any 1 2 x2 (by decide) (by decide)).mono ?_
 rw [show mkP 1 2 = 1 by decide, show mkQ 1 2 = 2 by decide, show mkC 2 = 0 by decide]
 rintro e w3 ⟨s12, A12, n12, c12, t12, B12, m12, d12, rfl, hr12, hb⟩
 have HB3 := hJ hb
 have HR3hr12 := hJ hr12
 clear hb hr12
 obtain ⟨x4, hx4⟩ := nmz (w3.alloc (.cells #[.bool s12, .slice A12 n12 c12, .bool t12, .slice B12 m12 d12] 35))
 have HB4 := hJ (show Below w3.heap.size w3 x4 by rw [← hx4]; exact ((Below.refl _ _).alloc (Nat.le_refl _) _))
 have HQ4x0 := hJ (show BX 35 x4 w3.heap.size #[.bool s12, .slice A12 n12 c12, .bool t12, .slice B12 m12 d12] by rw [← hx4]; exact (BX.at rfl))
 have HG4x0 := hJ (show w3.heap.size ≤ w3.heap.size by omega)
 have HL4x0 := hJ (show w3.heap.size < x4.heap.size from HQ4x0.out.lt)
 go_wp2_with fail
 clear hx4
 refine (fof_any 1 3 x4 (by decide) (by decide)).mono ?_
 rw [show mkP 1 3 = 1 by decide, show mkQ 1 3 = 3 by decide, show mkC 3 = 0 by decide]
 rintro e w5 ⟨s13, A13, n13, c13, t13, B13, m13, d13, rfl, hr13, hb⟩
 have HB5 := hJ hb
 have HR5hr13 := hJ hr13
 clear hb hr13
 obtain ⟨x6, hx6⟩ := nmz (w5.alloc (.cells #[.bool s13, .slice A13 n13 c13, .bool t13, .slice B13 m13 d13] 35))
 have HB6 := hJ (show Below w5.heap.size w5 x6 by rw [← hx6]; exact ((Below.refl _ _).alloc (Nat.le_refl _) _))
 have HQ6x0 := hJ (show BX 35 x6 w5.heap.size #[.bool s13, .slice A13 n13 c13, .bool t13, .slice B13 m13 d13] by rw [← hx6]; exact (BX.at rfl))
 have HG6x0 := hJ (show w5.heap.size ≤ w5.heap.size by omega)
 have HL6x0 := hJ (show w5.heap.size < x6.heap.size from HQ6x0.out.lt)
 have HC4_6 := hJ (bt HB5.out HB6.out)
 have HQ4x0w6 := hJ (BX.new HQ4x0.out HC4_6.out)
 obtain ⟨cl7, cl8, cl9, cl10⟩ := HQ4x0w6.out.c4 0 1 2 3 rfl rfl rfl rfl
 obtain ⟨cl11, cl12, cl13, cl14⟩ := HQ6x0.out.c4 0 1 2 3 rfl rfl rfl rfl
 have HC3_6 := hJ (bt (bt HB4.out HB5.out) HB6.out)
 have HR3hr12w6 := hJ (PF.new HR3hr12.out HC3_6.out)
 have HR5hr13w6 := hJ (PF.new HR5hr13.out HB6.out)
 go_wp2_with fail
 clear hx6 cl7 cl8 cl9 cl10 cl11 cl12 cl13 cl14
 refine (fadd_any 1 2 1 3 s12 t12 s13 t13 A12 B12 A13 B13 n12 c12 m12 d12 n13 c13 m13 d13 x6 HR3hr12w6.out HR5hr13w6.out fr_1_2.1.1 fr_1_3.1.1 fr_1_2.2.1 fr_1_2.2.2 fr_1_3.2.1 fr_1_3.2.2).mono ?_
 rw [ad_half.1, ad_half.2.1, ad_half.2.2]
 rintro e w15 ⟨s14, A14, n14, c14, t14, B14, m14, d14, rfl, hr14, hb⟩
 have HB15 := hJ hb
 have HR15hr14 := hJ hr14
 clear hb hr14
 obtain ⟨x16, hx16⟩ := nmz (w15.alloc (.cells #[.bool s14, .slice A14 n14 c14, .bool t14, .slice B14 m14 d14] 35))
 have HB16 := hJ (show Below w15.heap.size w15 x16 by rw [← hx16]; exact ((Below.refl _ _).alloc (Nat.le_refl _) _))
 have HQ16x0 := hJ (show BX 35 x16 w15.heap.size #[.bool s14, .slice A14 n14 c14, .bool t14, .slice B14 m14 d14] by rw [← hx16]; exact (BX.at rfl))
 have HG16x0 := hJ (show w15.heap.size ≤ w15.heap.size by omega)
 have HL16x0 := hJ (show w15.heap.size < x16.heap.size from HQ16x0.out.lt)
 go_wp2_with fail
 clear hx16
 refine (l4whole_any 1 x16 (by decide)).mono ?_
 rintro e w17 ⟨s15, A15, n15, c15, t15, B15, m15, d15, rfl, hr15, hb⟩
 have HB17 := hJ hb
 have HR17hr15 := hJ hr15
 clear hb hr15
 go_wp2_with fail
 refine (l4whole_any 0 w17 (by decide)).mono ?_
 rintro e w18 ⟨s16, A16, n16, c16, t16, B16, m16, d16, rfl, hr16, hb⟩
 have HB18 := hJ hb
 have HR18hr16 := hJ hr16
 clear hb hr16
 have HR17hr15w10 := hJ (PF.new HR17hr15.out HB18.out)
 go_wp2_with fail
 refine (fdiv_any 1 1 0 1 s15 t15 s16 t16 A15 B15 A16 B16 n15 c15 m15 d15 n16 c16 m16 d16 w18 HR17hr15w10.out HR18hr16.out (fr_int (x := 1) (by decide)).1.1 (fr_int (x := 0) (by decide)).1.1 (fr_int (x := 1) (by decide)).2.1 (fr_int (x := 1) (by decide)).2.2 (fr_int (x := 0) (by decide)).2.1 (fr_int (x := 0) (by decide)).2.2).mono ?_
 rw [show dvP 1 1 0 1 = 0 from rfl, show dvQ 1 1 0 1 = 1 from rfl, show dvC 1 1 0 1 = 1 from rfl]
 rintro e w19 ⟨s17, A17, n17, c17, t17, B17, m17, d17, rfl, hr17, hb⟩
 have HB19 := hJ hb
 have HR19hr17 := hJ hr17
 clear hb hr17
 obtain ⟨x20, hx20⟩ := nmz (w19.alloc (.cells #[.bool s17, .slice A17 n17 c17, .bool t17, .slice B17 m17 d17] 35))
 have HB20 := hJ (show Below w19.heap.size w19 x20 by rw [← hx20]; exact ((Below.refl _ _).alloc (Nat.le_refl _) _))
 have HQ20x0 := hJ (show BX 35 x20 w19.heap.size #[.bool s17, .slice A17 n17 c17, .bool t17, .slice B17 m17 d17] by rw [← hx20]; exact (BX.at rfl))
 have HG20x0 := hJ (show w19.heap.size ≤ w19.heap.size by omega)
 have HL20x0 := hJ (show w19.heap.size < x20.heap.size from HQ20x0.out.lt)
 have HC6_12 := hJ (bt (bt (bt (bt (bt HB15.out HB16.out) HB17.out) HB18.out) HB19.out) HB20.out)
 have HQ6x0w12 := hJ (BX.new HQ6x0.out HC6_12.out)
 have HS21 : Hid (∀ w', Below x20.heap.size x20 w' → (fun w' : World => w'.cell? ⟨w5.heap.size, 0, none⟩ = some (.bool s13) ∧ w'.cell? ⟨w5.heap.size, 1, none⟩ = some (.slice A13 n13 c13) ∧ w'.cell? ⟨w5.heap.size, 2, none⟩ = some (.bool t13) ∧ w'.cell? ⟨w5.heap.size, 3, none⟩ = some (.slice B13 m13 d13) ∧ Below x20.heap.size x20 w') w') := hJ (fun w' hb => ⟨(BX.new HQ6x0w12.out hb).cell 0 rfl, (BX.new HQ6x0w12.out hb).cell 1 rfl, (BX.new HQ6x0w12.out hb).cell 2 rfl, (BX.new HQ6x0w12.out hb).cell 3 rfl, hb⟩)
 have HR5hr13w12 := hJ (PF.new HR5hr13w6.out HC6_12.out)
 go_wp2_with fail
 clear hx20
 obtain ⟨v21, hv21⟩ := nmz (World.drew x20)
 have HX21 := hJ (show Below x20.heap.size x20 v21 by rw [← hv21]; exact (Below.refl _ _).drew)
 refine wp_region_held_drew (S := (fun w' : World => w'.cell? ⟨w5.heap.size, 0, none⟩ = some (.bool s13) ∧ w'.cell? ⟨w5.heap.size, 1, none⟩ = some (.slice A13 n13 c13) ∧ w'.cell? ⟨w5.heap.size, 2, none⟩ = some (.bool t13) ∧ w'.cell? ⟨w5.heap.size, 3, none⟩ = some (.slice B13 m13 d13) ∧ Below x20.heap.size x20 w')) (by kernel_rfl) ?_ (fun hHeld => ?_)
 ·rw [hv21]
  exact HS21.out _ HX21.out
 rw [hv21] at hHeld ⊢
 clear hv21
 refine tq 1 ?_
 try simp only [PT]
 refine wpAnyH_name (fun F hF a0 ha0 L0 hL0 => ?_)
 have J6_0_2_6 : ∀ (s18 : Bool) (A18 : Option Addr) (n18 : Nat) (c18 : Nat) (t18 : Bool) (B18 : Option Addr) (m18 : Nat) (d18 : Nat) (s19 : Bool) (A19 : Option Addr) (n19 : Nat) (c19 : Nat) (t19 : Bool) (B19 : Option Addr) (m19 : Nat) (d19 : Nat) (g6_6 : Nat) (v : World), Hid (Below x20.heap.size x20 v) → Hid (PF v s18 A18 n18 c18 t18 B18 m18 d18 1 1) → Hid (PF v s19 A19 n19 c19 t19 B19 m19 d19 2 3) → Hid (BX 35 v g6_6 #[.bool false, .slice none 0 0, .bool false, .slice none 0 0]) → Hid (x20.heap.size ≤ g6_6) → F 2 (Array.setIfInBounds (Array.setIfInBounds (Array.setIfInBounds (Array.setIfInBounds (Array.setIfInBounds (Array.setIfInBounds L0 0 true) 2 true) 6 true) 3 true) 4 true) 5 true) (Act.put (Act.put (Act.put (Act.put (Act.put (Act.put a0 (some 44) (.agg #[.bool s18, .slice A18 n18 c18, .bool t18, .slice B18 m18 d18])) (some 46) (.tuple #[.agg #[.bool s19, .slice A19 n19 c19, .bool t19, .slice B19 m19 d19], .int .i64 0])) (some 11) (.pointer (some ⟨g6_6, 0, none⟩))) (some 43) (.tuple #[.agg #[.bool s19, .slice A19 n19 c19, .bool t19, .slice B19 m19 d19], .int .i64 0])) (some 47) (.agg #[.bool s19, .slice A19 n19 c19, .bool t19, .slice B19 m19 d19])) (some 48) (.int .i64 0)) v := by
  intro s18 A18 n18 c18 t18 B18 m18 d18 s19 A19 n19 c19 t19 B19 m19 d19 g6_6 v HXj HZ0hr18j HZ2hr19j HPg6_6j HGg6_6j
  subst hF ha0 hL0
  simp only [PT] at  ⊢
  have hHeld := HS21.out _ HXj.out
  refine wpAnyH_ready (rs := [7]) (by kernel_rfl) (by simp) ?_
  refine .cons rfl (fun K hK => ?_) .nil
  have z22_0 := HPg6_6j.out.cell 0 rfl
  have y22_0 := HPg6_6j.out.frozen 0
  have z22_1 := HPg6_6j.out.cell 1 rfl
  have y22_1 := HPg6_6j.out.frozen 1
  have z22_2 := HPg6_6j.out.cell 2 rfl
  have y22_2 := HPg6_6j.out.frozen 2
  have z22_3 := HPg6_6j.out.cell 3 rfl
  have y22_3 := HPg6_6j.out.frozen 3
  have z22 := HPg6_6j.out.lt
  go_simp
  obtain ⟨v22, hV⟩ := nmz (World.setCell (World.setCell (World.setCell (World.setCell v ⟨g6_6, 0, none⟩ (.bool s19)) ⟨g6_6, 1, none⟩ (.slice A19 n19 c19)) ⟨g6_6, 2, none⟩ (.bool t19)) ⟨g6_6, 3, none⟩ (.slice B19 m19 d19))
  rw [hV]
  have HE22 := hJ (show sto v g6_6 0 [.bool s19, .slice A19 n19 c19, .bool t19, .slice B19 m19 d19] = v22 from hV)
  clear hV z22 z22_0 y22_0 z22_1 y22_1 z22_2 y22_2 z22_3 y22_3
  have HX22 := hJ (show Below x20.heap.size x20 v22 by rw [← HE22.out]; exact below_sto HXj.out HGg6_6j.out _ _)
  have HZ22_0 := hJ (show PF v22 s18 A18 n18 c18 t18 B18 m18 d18 1 1 by rw [← HE22.out]; exact PF.sto HZ0hr18j.out HPg6_6j.out rfl _ _)
  have HZ22_1 := hJ (show PF v22 s19 A19 n19 c19 t19 B19 m19 d19 2 3 by rw [← HE22.out]; exact PF.sto HZ2hr19j.out HPg6_6j.out rfl _ _)
  have HP22g6_6 := hJ (show BX 35 v22 g6_6 #[.bool s19, .slice A19 n19 c19, .bool t19, .slice B19 m19 d19] by rw [← HE22.out]; exact BX.put HPg6_6j.out _ _)
  clear hHeld
  refine hK.out _ _ (HS21.out _ HX22.out) (fun hHeld => ?_)
  clear hK K
  try simp only [PT]
  refine tq 8 ?_
  try simp only [PT]
  refine wpAnyH_done (by kernel_rfl) ?_ _
  clear hHeld
  have HL23 := hJ (show g6_6 < v22.heap.size from HP22g6_6.out.lt)
  obtain ⟨cl24, cl25, cl26, cl27⟩ := HP22g6_6.out.c4 0 1 2 3 rfl rfl rfl rfl
  go_wp2_with fail
  clear cl24 cl25 cl26 cl27
  refine (fpow3_any s19 A19 n19 c19 t19 B19 m19 d19 v22 HZ22_1.out).mono ?_
  rintro e w28 ⟨s20, A20, n20, c20, t20, B20, m20, d20, rfl, hr20, hb⟩
  have HB28 := hJ hb
  have HR28hr20 := hJ hr20
  clear hb hr20
  obtain ⟨x29, hx29⟩ := nmz (w28.alloc (.cells #[.bool s20, .slice A20 n20 c20, .bool t20, .slice B20 m20 d20] 35))
  have HB29 := hJ (show Below w28.heap.size w28 x29 by rw [← hx29]; exact ((Below.refl _ _).alloc (Nat.le_refl _) _))
  have HQ29x0 := hJ (show BX 35 x29 w28.heap.size #[.bool s20, .slice A20 n20 c20, .bool t20, .slice B20 m20 d20] by rw [← hx29]; exact (BX.at rfl))
  have HG29x0 := hJ (show w28.heap.size ≤ w28.heap.size by omega)
  have HL29x0 := hJ (show w28.heap.size < x29.heap.size from HQ29x0.out.lt)
  go_wp2_with fail
  clear hx29
  refine (fparse_any [50, 47, 52] x29 (by decide)).mono ?_
  rw [fq_24.1, fq_24.2.1, fq_24.2.2]
  rintro e w30 ⟨s21, A21, n21, c21, t21, B21, m21, d21, rfl, hr21, hb⟩
  have HB30 := hJ hb
  have HR30hr21 := hJ hr21
  clear hb hr21
  obtain ⟨x31, hx31⟩ := nmz (w30.alloc (.cells #[.bool s21, .slice A21 n21 c21, .bool t21, .slice B21 m21 d21] 35))
  have HB31 := hJ (show Below w30.heap.size w30 x31 by rw [← hx31]; exact ((Below.refl _ _).alloc (Nat.le_refl _) _))
  have HQ31x0 := hJ (show BX 35 x31 w30.heap.size #[.bool s21, .slice A21 n21 c21, .bool t21, .slice B21 m21 d21] by rw [← hx31]; exact (BX.at rfl))
  have HG31x0 := hJ (show w30.heap.size ≤ w30.heap.size by omega)
  have HL31x0 := hJ (show w30.heap.size < x31.heap.size from HQ31x0.out.lt)
  go_wp2_with fail
  clear hx31
  refine (fparse_any [51, 47, 49] x31 (by decide)).mono ?_
  rw [fq_31.1, fq_31.2.1, fq_31.2.2]
  rintro e w32 ⟨s22, A22, n22, c22, t22, B22, m22, d22, rfl, hr22, hb⟩
  have HB32 := hJ hb
  have HR32hr22 := hJ hr22
  clear hb hr22
  obtain ⟨x33, hx33⟩ := nmz (w32.alloc (.cells #[.bool s22, .slice A22 n22 c22, .bool t22, .slice B22 m22 d22] 35))
  have HB33 := hJ (show Below w32.heap.size w32 x33 by rw [← hx33]; exact ((Below.refl _ _).alloc (Nat.le_refl _) _))
  have HQ33x0 := hJ (show BX 35 x33 w32.heap.size #[.bool s22, .slice A22 n22 c22, .bool t22, .slice B22 m22 d22] by rw [← hx33]; exact (BX.at rfl))
  have HG33x0 := hJ (show w32.heap.size ≤ w32.heap.size by omega)
  have HL33x0 := hJ (show w32.heap.size < x33.heap.size from HQ33x0.out.lt)
  have HC2_19 := hJ (bt (bt (bt (bt (bt (bt (bt (bt (bt (bt (bt (bt (bt (bt (bt (bt HB3.out HB4.out) HB5.out) HB6.out) HB15.out) HB16.out) HB17.out) HB18.out) HB19.out) HB20.out) HX22.out) HB28.out) HB29.out) HB30.out) HB31.out) HB32.out) HB33.out)
  have HQ2x0w19 := hJ (BX.new HQ2x0.out HC2_19.out)
  obtain ⟨cl34, cl35, cl36, cl37⟩ := HQ2x0w19.out.c4 0 1 2 3 rfl rfl rfl rfl
  have HC1_19 := hJ (bt (bt (bt (bt (bt (bt (bt (bt (bt (bt (bt (bt (bt (bt (bt (bt (bt HB2.out HB3.out) HB4.out) HB5.out) HB6.out) HB15.out) HB16.out) HB17.out) HB18.out) HB19.out) HB20.out) HX22.out) HB28.out) HB29.out) HB30.out) HB31.out) HB32.out) HB33.out)
  have HR1hr11w19 := hJ (PF.new HR1hr11.out HC1_19.out)
  go_wp2_with fail
  clear hx33 cl34 cl35 cl36 cl37
  refine (fstring_any ((-3)) 4 s11 t11 A11 B11 n11 c11 m11 d11 x33 HR1hr11w19.out fr_m3_4.2.1 fr_m3_4.2.2 fr_m3_4.1.1).mono ?_
  rw [ft_34]
  rintro e w38 ⟨rfl, hb⟩
  have HB38 := hJ hb
  clear hb
  have HC8_20 := hJ (bt (bt (bt (bt (bt (bt (bt (bt (bt (bt (bt HB17.out HB18.out) HB19.out) HB20.out) HX22.out) HB28.out) HB29.out) HB30.out) HB31.out) HB32.out) HB33.out) HB38.out)
  have HQ16x0w20 := hJ (BX.new HQ16x0.out HC8_20.out)
  obtain ⟨cl39, cl40, cl41, cl42⟩ := HQ16x0w20.out.c4 0 1 2 3 rfl rfl rfl rfl
  have HC7_20 := hJ (bt (bt (bt (bt (bt (bt (bt (bt (bt (bt (bt (bt HB16.out HB17.out) HB18.out) HB19.out) HB20.out) HX22.out) HB28.out) HB29.out) HB30.out) HB31.out) HB32.out) HB33.out) HB38.out)
  have HR15hr14w20 := hJ (PF.new HR15hr14.out HC7_20.out)
  go_wp2_with fail
  clear cl39 cl40 cl41 cl42
  refine (fstring_any 5 6 s14 t14 A14 B14 n14 c14 m14 d14 w38 HR15hr14w20.out fr_5_6.2.1 fr_5_6.2.2 fr_5_6.1.1).mono ?_
  rw [ft_56]
  rintro e w43 ⟨rfl, hb⟩
  have HB43 := hJ hb
  clear hb
  have HC15_21 := hJ (bt (bt (bt (bt (bt HB30.out HB31.out) HB32.out) HB33.out) HB38.out) HB43.out)
  have HQ29x0w21 := hJ (BX.new HQ29x0.out HC15_21.out)
  obtain ⟨cl44, cl45, cl46, cl47⟩ := HQ29x0w21.out.c4 0 1 2 3 rfl rfl rfl rfl
  have HC14_21 := hJ (bt (bt (bt (bt (bt (bt HB29.out HB30.out) HB31.out) HB32.out) HB33.out) HB38.out) HB43.out)
  have HR28hr20w21 := hJ (PF.new HR28hr20.out HC14_21.out)
  go_wp2_with fail
  clear cl44 cl45 cl46 cl47
  refine (fstring_any 8 27 s20 t20 A20 B20 n20 c20 m20 d20 w43 HR28hr20w21.out fr_8_27.2.1 fr_8_27.2.2 fr_8_27.1.1).mono ?_
  rw [ft_827]
  rintro e w48 ⟨rfl, hb⟩
  have HB48 := hJ hb
  clear hb
  have HC0_22 := hJ (bt (bt (bt (bt (bt (bt (bt (bt (bt (bt (bt (bt (bt (bt (bt (bt (bt (bt (bt (bt (bt HB1.out HB2.out) HB3.out) HB4.out) HB5.out) HB6.out) HB15.out) HB16.out) HB17.out) HB18.out) HB19.out) HB20.out) HX22.out) HB28.out) HB29.out) HB30.out) HB31.out) HB32.out) HB33.out) HB38.out) HB43.out) HB48.out)
  go_wp2
  go_ret
  exact ⟨by first | rfl | kernel_rfl, HC0_22.out⟩
 have J6_0_2 : ∀ (s18 : Bool) (A18 : Option Addr) (n18 : Nat) (c18 : Nat) (t18 : Bool) (B18 : Option Addr) (m18 : Nat) (d18 : Nat) (s19 : Bool) (A19 : Option Addr) (n19 : Nat) (c19 : Nat) (t19 : Bool) (B19 : Option Addr) (m19 : Nat) (d19 : Nat) (v : World), Hid (Below x20.heap.size x20 v) → Hid (PF v s18 A18 n18 c18 t18 B18 m18 d18 1 1) → Hid (PF v s19 A19 n19 c19 t19 B19 m19 d19 2 3) → F 3 (Array.setIfInBounds (Array.setIfInBounds (Array.setIfInBounds (Array.setIfInBounds (Array.setIfInBounds L0 0 true) 2 true) 3 true) 4 true) 5 true) (Act.put (Act.put (Act.put (Act.put (Act.put a0 (some 44) (.agg #[.bool s18, .slice A18 n18 c18, .bool t18, .slice B18 m18 d18])) (some 46) (.tuple #[.agg #[.bool s19, .slice A19 n19 c19, .bool t19, .slice B19 m19 d19], .int .i64 0])) (some 43) (.tuple #[.agg #[.bool s19, .slice A19 n19 c19, .bool t19, .slice B19 m19 d19], .int .i64 0])) (some 47) (.agg #[.bool s19, .slice A19 n19 c19, .bool t19, .slice B19 m19 d19])) (some 48) (.int .i64 0)) v := by
  intro s18 A18 n18 c18 t18 B18 m18 d18 s19 A19 n19 c19 t19 B19 m19 d19 v HXj HZ0hr18j HZ2hr19j
  subst hF ha0 hL0
  simp only [PT] at J6_0_2_6 ⊢
  have hHeld := HS21.out _ HXj.out
  refine wpAnyH_ready (rs := [6]) (by kernel_rfl) (by simp) ?_
  refine .cons rfl (fun K hK => ?_) .nil
  go_simp
  have HB49 := hJ ((Below.refl v.heap.size v).alloc (Nat.le_refl _) (.cells #[.bool false, .slice none 0 0, .bool false, .slice none 0 0] 35))
  have HP49 := hJ (BX.lit v 35 #[.bool false, .slice none 0 0, .bool false, .slice none 0 0])
  obtain ⟨v49, hV⟩ := nmz (World.alloc v (.cells #[.bool false, .slice none 0 0, .bool false, .slice none 0 0] 35))
  obtain ⟨g6_6, hg⟩ := nmz (v.heap.size)
  rw [hV] at HB49 HP49 ⊢
  rw [hg] at HP49 ⊢
  have HG49 := hJ (show x20.heap.size ≤ g6_6 by rw [← hg]; exact HXj.out.size)
  clear hV hg
  have HX49 := hJ (bt HXj.out HB49.out)
  have HZ49_0 := hJ (PF.new HZ0hr18j.out HB49.out)
  have HZ49_1 := hJ (PF.new HZ2hr19j.out HB49.out)
  clear hHeld
  refine hK.out _ _ (HS21.out _ HX49.out) (fun hHeld => ?_)
  clear hK K
  try simp only [PT]
  exact wpAnyH_cast (by kernel_rfl) (J6_0_2_6 s18 A18 n18 c18 t18 B18 m18 d18 s19 A19 n19 c19 t19 B19 m19 d19 g6_6 v49 HX49 HZ49_0 HZ49_1 HP49 HG49)
 have J6_0_6 : ∀ (s18 : Bool) (A18 : Option Addr) (n18 : Nat) (c18 : Nat) (t18 : Bool) (B18 : Option Addr) (m18 : Nat) (d18 : Nat) (g6_6 : Nat) (v : World), Hid (Below x20.heap.size x20 v) → Hid (PF v s18 A18 n18 c18 t18 B18 m18 d18 1 1) → Hid (BX 35 v g6_6 #[.bool false, .slice none 0 0, .bool false, .slice none 0 0]) → Hid (x20.heap.size ≤ g6_6) → F 6 (Array.setIfInBounds (Array.setIfInBounds L0 0 true) 6 true) (Act.put (Act.put a0 (some 44) (.agg #[.bool s18, .slice A18 n18 c18, .bool t18, .slice B18 m18 d18])) (some 11) (.pointer (some ⟨g6_6, 0, none⟩))) v := by
  intro s18 A18 n18 c18 t18 B18 m18 d18 g6_6 v HXj HZ0hr18j HPg6_6j HGg6_6j
  subst hF ha0 hL0
  simp only [PT] at J6_0_2_6 ⊢
  have hHeld := HS21.out _ HXj.out
  refine wpAnyH_ready (rs := [2]) (by kernel_rfl) (by simp) ?_
  refine .cons rfl (fun K hK => ?_) .nil
  go_simp
  go_at_call 35
  refine (fsub_any 1 1 1 3 s18 t18 s13 t13 A18 B18 A13 B13 n18 c18 m18 d18 n13 c13 m13 d13 v HZ0hr18j.out (PF.new HR5hr13w12.out HXj.out) (fr_int (x := 1) (by decide)).1.1 fr_1_3.1.1 (fr_int (x := 1) (by decide)).2.1 (fr_int (x := 1) (by decide)).2.2 fr_1_3.2.1 fr_1_3.2.2).mono ?_
  rw [ad_two.1, ad_two.2.1, ad_two.2.2]
  rintro e v50 ⟨s19, A19, n19, c19, t19, B19, m19, d19, rfl, hr19, hb⟩
  have HB50 := hJ hb
  have HR50hr19 := hJ hr19
  clear hb hr19
  go_wp2_with fail
  have HX50 := hJ (bt HXj.out HB50.out)
  have HZ50_0 := hJ (PF.new HZ0hr18j.out HB50.out)
  have HP50g6_6 := hJ (BX.new HPg6_6j.out HB50.out)
  clear hHeld
  refine hK.out _ _ (HS21.out _ HX50.out) (fun hHeld => ?_)
  clear hK K
  try simp only [PT]
  refine tq 3 ?_
  try simp only [PT]
  refine tq 4 ?_
  try simp only [PT]
  refine tq 5 ?_
  try simp only [PT]
  exact wpAnyH_cast (by kernel_rfl) (J6_0_2_6 s18 A18 n18 c18 t18 B18 m18 d18 s19 A19 n19 c19 t19 B19 m19 d19 g6_6 v50 HX50 HZ50_0 HR50hr19 HP50g6_6 HGg6_6j)
 have J6_0 : ∀ (s18 : Bool) (A18 : Option Addr) (n18 : Nat) (c18 : Nat) (t18 : Bool) (B18 : Option Addr) (m18 : Nat) (d18 : Nat) (v : World), Hid (Below x20.heap.size x20 v) → Hid (PF v s18 A18 n18 c18 t18 B18 m18 d18 1 1) → F 7 (Array.setIfInBounds L0 0 true) (Act.put a0 (some 44) (.agg #[.bool s18, .slice A18 n18 c18, .bool t18, .slice B18 m18 d18])) v := by
  intro s18 A18 n18 c18 t18 B18 m18 d18 v HXj HZ0hr18j
  subst hF ha0 hL0
  simp only [PT] at J6_0_2 J6_0_6 ⊢
  have hHeld := HS21.out _ HXj.out
  refine wpAnyH_ready (rs := [2, 6]) (by kernel_rfl) (by simp) ?_
  refine .cons rfl (fun K hK => ?_) ?_
  go_simp
  go_at_call 35
  refine (fsub_any 1 1 1 3 s18 t18 s13 t13 A18 B18 A13 B13 n18 c18 m18 d18 n13 c13 m13 d13 v HZ0hr18j.out (PF.new HR5hr13w12.out HXj.out) (fr_int (x := 1) (by decide)).1.1 fr_1_3.1.1 (fr_int (x := 1) (by decide)).2.1 (fr_int (x := 1) (by decide)).2.2 fr_1_3.2.1 fr_1_3.2.2).mono ?_
  rw [ad_two.1, ad_two.2.1, ad_two.2.2]
  rintro e v51 ⟨s19, A19, n19, c19, t19, B19, m19, d19, rfl, hr19, hb⟩
  have HB51 := hJ hb
  have HR51hr19 := hJ hr19
  clear hb hr19
  go_wp2_with fail
  have HX51 := hJ (bt HXj.out HB51.out)
  have HZ51_0 := hJ (PF.new HZ0hr18j.out HB51.out)
  clear hHeld
  refine hK.out _ _ (HS21.out _ HX51.out) (fun hHeld => ?_)
  clear hK K
  try simp only [PT]
  refine tq 3 ?_
  try simp only [PT]
  refine tq 4 ?_
  try simp only [PT]
  refine tq 5 ?_
  try simp only [PT]
  exact wpAnyH_cast (by kernel_rfl) (J6_0_2 s18 A18 n18 c18 t18 B18 m18 d18 s19 A19 n19 c19 t19 B19 m19 d19 v51 HX51 HZ51_0 HR51hr19)
  refine .cons rfl (fun K hK => ?_) .nil
  go_simp
  have HB52 := hJ ((Below.refl v.heap.size v).alloc (Nat.le_refl _) (.cells #[.bool false, .slice none 0 0, .bool false, .slice none 0 0] 35))
  have HP52 := hJ (BX.lit v 35 #[.bool false, .slice none 0 0, .bool false, .slice none 0 0])
  obtain ⟨v52, hV⟩ := nmz (World.alloc v (.cells #[.bool false, .slice none 0 0, .bool false, .slice none 0 0] 35))
  obtain ⟨g6_6, hg⟩ := nmz (v.heap.size)
  rw [hV] at HB52 HP52 ⊢
  rw [hg] at HP52 ⊢
  have HG52 := hJ (show x20.heap.size ≤ g6_6 by rw [← hg]; exact HXj.out.size)
  clear hV hg
  have HX52 := hJ (bt HXj.out HB52.out)
  have HZ52_0 := hJ (PF.new HZ0hr18j.out HB52.out)
  clear hHeld
  refine hK.out _ _ (HS21.out _ HX52.out) (fun hHeld => ?_)
  clear hK K
  try simp only [PT]
  exact wpAnyH_cast (by kernel_rfl) (J6_0_6 s18 A18 n18 c18 t18 B18 m18 d18 g6_6 v52 HX52 HZ52_0 HP52 HG52)
 have J6_6 : ∀ (g6_6 : Nat) (v : World), Hid (Below x20.heap.size x20 v) → Hid (BX 35 v g6_6 #[.bool false, .slice none 0 0, .bool false, .slice none 0 0]) → Hid (x20.heap.size ≤ g6_6) → F 7 (Array.setIfInBounds L0 6 true) (Act.put a0 (some 11) (.pointer (some ⟨g6_6, 0, none⟩))) v := by
  intro g6_6 v HXj HPg6_6j HGg6_6j
  subst hF ha0 hL0
  simp only [PT] at J6_0_6 ⊢
  have hHeld := HS21.out _ HXj.out
  refine wpAnyH_ready (rs := [0]) (by kernel_rfl) (by simp) ?_
  refine .cons rfl (fun K hK => ?_) .nil
  go_simp
  go_at_call 27
  refine (l4whole_any 1 v (by decide)).mono ?_
  rintro e v53 ⟨s18, A18, n18, c18, t18, B18, m18, d18, rfl, hr18, hb⟩
  have HB53 := hJ hb
  have HR53hr18 := hJ hr18
  clear hb hr18
  go_wp2_with fail
  have HX53 := hJ (bt HXj.out HB53.out)
  have HP53g6_6 := hJ (BX.new HPg6_6j.out HB53.out)
  clear hHeld
  refine hK.out _ _ (HS21.out _ HX53.out) (fun hHeld => ?_)
  clear hK K
  try simp only [PT]
  exact wpAnyH_cast (by kernel_rfl) (J6_0_6 s18 A18 n18 c18 t18 B18 m18 d18 g6_6 v53 HX53 HR53hr18 HP53g6_6 HGg6_6j)
 subst hF ha0 hL0
 simp only [PT] at J6_0 J6_6
 refine wpAnyH_ready (rs := [0, 6]) (by kernel_rfl) (by simp) ?_
 refine .cons rfl (fun K hK => ?_) ?_
 go_simp
 go_at_call 27
 refine (l4whole_any 1 v21 (by decide)).mono ?_
 rintro e v54 ⟨s18, A18, n18, c18, t18, B18, m18, d18, rfl, hr18, hb⟩
 have HB54 := hJ hb
 have HR54hr18 := hJ hr18
 clear hb hr18
 go_wp2_with fail
 have HX54 := hJ (bt HX21.out HB54.out)
 clear hHeld
 refine hK.out _ _ (HS21.out _ HX54.out) (fun hHeld => ?_)
 clear hK K
 try simp only [PT]
 exact wpAnyH_cast (by kernel_rfl) (J6_0 s18 A18 n18 c18 t18 B18 m18 d18 v54 HX54 HR54hr18)
 refine .cons rfl (fun K hK => ?_) .nil
 go_simp
 have HB55 := hJ ((Below.refl v21.heap.size v21).alloc (Nat.le_refl _) (.cells #[.bool false, .slice none 0 0, .bool false, .slice none 0 0] 35))
 have HP55 := hJ (BX.lit v21 35 #[.bool false, .slice none 0 0, .bool false, .slice none 0 0])
 obtain ⟨v55, hV⟩ := nmz (World.alloc v21 (.cells #[.bool false, .slice none 0 0, .bool false, .slice none 0 0] 35))
 obtain ⟨g6_6, hg⟩ := nmz (v21.heap.size)
 rw [hV] at HB55 HP55 ⊢
 rw [hg] at HP55 ⊢
 have HG55 := hJ (show x20.heap.size ≤ g6_6 by rw [← hg]; exact HX21.out.size)
 clear hV hg
 have HX55 := hJ (bt HX21.out HB55.out)
 clear hHeld
 refine hK.out _ _ (HS21.out _ HX55.out) (fun hHeld => ?_)
 clear hK K
 try simp only [PT]
 exact wpAnyH_cast (by kernel_rfl) (J6_6 g6_6 v55 HX55 HP55 HG55)
end Go.Proofs.YtbhnaffbgggabaaGreat
