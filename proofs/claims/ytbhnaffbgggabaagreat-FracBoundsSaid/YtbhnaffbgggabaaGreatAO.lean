/- Contracts taken out of a text for its size. Conditions: as each statement has them. -/
import Derived.Test.YtbhnaffbgggabaaGreatNRs
import Derived.Test.YtbhnaffbgggabaaGreatAB
namespace Go.Proofs.YtbhnaffbgggabaaGreat
open Go.RowKit
attribute [local go_sem ↓] Go.wp_at_zero Go.wp_at_succ
set_option maxRecDepth 100000 in
set_option maxHeartbeats 1600000 in
theorem r4ranged_any (p q e : Int) (k : Nat) (s0 : Bool) (A0 : Option Addr) (n0 c0 : Nat) (t0 : Bool) (B0 : Option Addr) (m0 d0 : Nat) (w : World) (hp : RN w s0 A0 n0 c0 p) (hq : RN w t0 B0 m0 d0 q) (hk : k ≤ 100000) (hbp : p.natAbs < B2 k) (hbq : q.natAbs < B2 k) :
  Calls Tryz.prog 112 #[.agg #[.bool s0, .slice A0 n0 c0, .bool t0, .slice B0 m0 d0], .int .i64 e] w (RetRE (rgP p q e) (rgQ p q e) (rgC p q e) w) := by
 have HP0 := hJ hp
 have HP1 := hJ hq
 have HK := hJ hk
 have HBX := hJ hbp
 have HBD := hJ hbq
 clear hp hq hk hbp hbq
 rcases rg_cases p q e with hc | ⟨rfl, hc⟩ | ⟨rfl, h1, hc⟩ | ⟨rfl, h1, h2⟩
 ·have HRES := hJ (rg_bad (p := p) (q := q) hc)
  obtain ⟨x1, hx1⟩ := nmz ((w.alloc (.cells #[.bool s0, .slice A0 n0 c0, .bool t0, .slice B0 m0 d0] 41)).alloc (.cells #[.bool false, .slice none 0 0, .bool false, .slice none 0 0] 41))
  have HB1 := hJ (show Below w.heap.size w x1 by rw [← hx1]; exact (((Below.refl _ _).alloc (Nat.le_refl _) _).alloc (by simp only [World.size_alloc]; omega) _))
  have HQ1x0 := hJ (show BX 41 x1 w.heap.size #[.bool s0, .slice A0 n0 c0, .bool t0, .slice B0 m0 d0] by rw [← hx1]; exact ((BX.at rfl).alloc _))
  have HG1x0 := hJ (show w.heap.size ≤ w.heap.size by omega)
  have HL1x0 := hJ (show w.heap.size < x1.heap.size from HQ1x0.out.lt)
  have HQ1x1 := hJ (show BX 41 x1 (w.heap.size + 1) #[.bool false, .slice none 0 0, .bool false, .slice none 0 0] by rw [← hx1]; exact (BX.at (by simp only [World.size_alloc])))
  have HG1x1 := hJ (show w.heap.size ≤ w.heap.size + 1 by omega)
  have HL1x1 := hJ (show w.heap.size + 1 < x1.heap.size from HQ1x1.out.lt)
  obtain ⟨cl2, cl3⟩ := HQ1x0.out.c2 0 1 rfl rfl
  have HP0w1 := hJ (RNo.new HP0.out HB1.out)
  go_enter Tryz.func112, Tryz.ntmps112
  go_wp2_with fail
  clear hx1 cl2 cl3
  refine (fits_any p s0 A0 n0 c0 x1 HP0w1.out (Nat.le_trans (B2.rlen HP0w1.out HBX.out) (by have := HK.out; omega))).mono ?_
  rintro e w4 ⟨rfl, hb⟩
  have HB4 := hJ hb
  clear hb
  have HQ1x0w2 := hJ (BX.new HQ1x0.out HB4.out)
  obtain ⟨cl5, cl6⟩ := HQ1x0w2.out.c2 2 3 rfl rfl
  have HC0_2 := hJ (bt HB1.out HB4.out)
  have HP1w2 := hJ (RNo.new HP1.out HC0_2.out)
  go_wp2_with fail
  clear cl5 cl6
  refine (fits_any q t0 B0 m0 d0 w4 HP1w2.out (Nat.le_trans (B2.rlen HP1w2.out HBD.out) (by have := HK.out; omega))).mono ?_
  rintro e w7 ⟨rfl, hb⟩
  have HB7 := hJ hb
  clear hb
  go_wp2_with fail
  refine (r4of_any 0 w7 (by decide)).mono ?_
  rintro e w8 ⟨s11, A11, n11, c11, t11, B11, m11, d11, rfl, hr11, hs11, hb⟩
  have HB8 := hJ hb
  have HR8hr11 := hJ hr11
  have HR8hs11 := hJ hs11
  clear hb hr11 hs11
  have HC1_4 := hJ (bt (bt HB4.out HB7.out) HB8.out)
  have HQ1x1w4 := hJ (BX.new HQ1x1.out HC1_4.out)
  have fz9_0 := HQ1x1w4.out.frozen 0
  have fc9_0 := HQ1x1w4.out.cell 0 rfl
  have fz9_1 := HQ1x1w4.out.frozen 1
  have fc9_1 := HQ1x1w4.out.cell 1 rfl
  have fz9_2 := HQ1x1w4.out.frozen 2
  have fc9_2 := HQ1x1w4.out.cell 2 rfl
  have fz9_3 := HQ1x1w4.out.frozen 3
  have fc9_3 := HQ1x1w4.out.cell 3 rfl
  obtain ⟨x9, hx9⟩ := nmz (World.setCell (World.setCell (World.setCell (World.setCell w8 ⟨w.heap.size + 1, 0, none⟩ (.bool s11)) ⟨w.heap.size + 1, 1, none⟩ (.slice A11 n11 c11)) ⟨w.heap.size + 1, 2, none⟩ (.bool t11)) ⟨w.heap.size + 1, 3, none⟩ (.slice B11 m11 d11))
  have HE9 := hJ (show sto w8 (w.heap.size + 1) 0 [.bool s11, .slice A11 n11 c11, .bool t11, .slice B11 m11 d11] = x9 from hx9)
  have HQ9s := hJ (show BX 41 x9 (w.heap.size + 1) #[.bool s11, .slice A11 n11 c11, .bool t11, .slice B11 m11 d11] by rw [← HE9.out]; exact BX.put HQ1x1w4.out _ _)
  have HC0_5 := hJ (show Below w.heap.size w x9 by rw [← HE9.out]; exact below_sto (bt (bt HC0_2.out HB7.out) HB8.out) HG1x1.out _ _)
  have HR8hr11w5 := hJ (show RN x9 s11 A11 n11 c11 0 by rw [← HE9.out]; exact RNo.sto HR8hr11.out HQ1x1w4.out rfl _ _)
  have HR8hs11w5 := hJ (show RN x9 t11 B11 m11 d11 1 by rw [← HE9.out]; exact RNo.sto HR8hs11.out HQ1x1w4.out rfl _ _)
  go_wp2
  clear fz9_0 fc9_0 fz9_1 fc9_1 fz9_2 fc9_2 fz9_3 fc9_3 hx9
  exact bodyPost_ret (results_cell1 rfl _ _ _ _ _ _ _ rfl HQ9s.out Tryz.underlying41 rfl (by kernel_rfl)) rfl (by rw [HRES.out.1, HRES.out.2.1, HRES.out.2.2]; exact ⟨s11, A11, n11, c11, t11, B11, m11, d11, rfl, HR8hr11w5.out, HR8hs11w5.out, HC0_5.out⟩)
 ·have HRES := hJ (rg_big (p := p) (q := q) (fun g => hc g.1))
  have HF1 := hJ (decide_eq_false hc)
  clear hc
  obtain ⟨x10, hx10⟩ := nmz ((w.alloc (.cells #[.bool s0, .slice A0 n0 c0, .bool t0, .slice B0 m0 d0] 41)).alloc (.cells #[.bool false, .slice none 0 0, .bool false, .slice none 0 0] 41))
  have HB10 := hJ (show Below w.heap.size w x10 by rw [← hx10]; exact (((Below.refl _ _).alloc (Nat.le_refl _) _).alloc (by simp only [World.size_alloc]; omega) _))
  have HQ10x0 := hJ (show BX 41 x10 w.heap.size #[.bool s0, .slice A0 n0 c0, .bool t0, .slice B0 m0 d0] by rw [← hx10]; exact ((BX.at rfl).alloc _))
  have HG10x0 := hJ (show w.heap.size ≤ w.heap.size by omega)
  have HL10x0 := hJ (show w.heap.size < x10.heap.size from HQ10x0.out.lt)
  have HQ10x1 := hJ (show BX 41 x10 (w.heap.size + 1) #[.bool false, .slice none 0 0, .bool false, .slice none 0 0] by rw [← hx10]; exact (BX.at (by simp only [World.size_alloc])))
  have HG10x1 := hJ (show w.heap.size ≤ w.heap.size + 1 by omega)
  have HL10x1 := hJ (show w.heap.size + 1 < x10.heap.size from HQ10x1.out.lt)
  obtain ⟨cl11, cl12⟩ := HQ10x0.out.c2 0 1 rfl rfl
  have HP0w1 := hJ (RNo.new HP0.out HB10.out)
  go_enter Tryz.func112, Tryz.ntmps112
  go_wp2_with fail
  clear hx10 cl11 cl12
  refine (fits_any p s0 A0 n0 c0 x10 HP0w1.out (Nat.le_trans (B2.rlen HP0w1.out HBX.out) (by have := HK.out; omega))).mono ?_
  rw [HF1.out]
  rintro e w13 ⟨rfl, hb⟩
  have HB13 := hJ hb
  clear hb
  have HQ10x0w2 := hJ (BX.new HQ10x0.out HB13.out)
  obtain ⟨cl14, cl15⟩ := HQ10x0w2.out.c2 2 3 rfl rfl
  have HC0_2 := hJ (bt HB10.out HB13.out)
  have HP1w2 := hJ (RNo.new HP1.out HC0_2.out)
  go_wp2_with fail
  clear cl14 cl15
  refine (fits_any q t0 B0 m0 d0 w13 HP1w2.out (Nat.le_trans (B2.rlen HP1w2.out HBD.out) (by have := HK.out; omega))).mono ?_
  rintro e w16 ⟨rfl, hb⟩
  have HB16 := hJ hb
  clear hb
  go_wp2_with fail
  refine (r4of_any 0 w16 (by decide)).mono ?_
  rintro e w17 ⟨s12, A12, n12, c12, t12, B12, m12, d12, rfl, hr12, hs12, hb⟩
  have HB17 := hJ hb
  have HR17hr12 := hJ hr12
  have HR17hs12 := hJ hs12
  clear hb hr12 hs12
  have HC1_4 := hJ (bt (bt HB13.out HB16.out) HB17.out)
  have HQ10x1w4 := hJ (BX.new HQ10x1.out HC1_4.out)
  have fz18_0 := HQ10x1w4.out.frozen 0
  have fc18_0 := HQ10x1w4.out.cell 0 rfl
  have fz18_1 := HQ10x1w4.out.frozen 1
  have fc18_1 := HQ10x1w4.out.cell 1 rfl
  have fz18_2 := HQ10x1w4.out.frozen 2
  have fc18_2 := HQ10x1w4.out.cell 2 rfl
  have fz18_3 := HQ10x1w4.out.frozen 3
  have fc18_3 := HQ10x1w4.out.cell 3 rfl
  obtain ⟨x18, hx18⟩ := nmz (World.setCell (World.setCell (World.setCell (World.setCell w17 ⟨w.heap.size + 1, 0, none⟩ (.bool s12)) ⟨w.heap.size + 1, 1, none⟩ (.slice A12 n12 c12)) ⟨w.heap.size + 1, 2, none⟩ (.bool t12)) ⟨w.heap.size + 1, 3, none⟩ (.slice B12 m12 d12))
  have HE18 := hJ (show sto w17 (w.heap.size + 1) 0 [.bool s12, .slice A12 n12 c12, .bool t12, .slice B12 m12 d12] = x18 from hx18)
  have HQ18s := hJ (show BX 41 x18 (w.heap.size + 1) #[.bool s12, .slice A12 n12 c12, .bool t12, .slice B12 m12 d12] by rw [← HE18.out]; exact BX.put HQ10x1w4.out _ _)
  have HC0_5 := hJ (show Below w.heap.size w x18 by rw [← HE18.out]; exact below_sto (bt (bt HC0_2.out HB16.out) HB17.out) HG10x1.out _ _)
  have HR17hr12w5 := hJ (show RN x18 s12 A12 n12 c12 0 by rw [← HE18.out]; exact RNo.sto HR17hr12.out HQ10x1w4.out rfl _ _)
  have HR17hs12w5 := hJ (show RN x18 t12 B12 m12 d12 1 by rw [← HE18.out]; exact RNo.sto HR17hs12.out HQ10x1w4.out rfl _ _)
  go_wp2
  clear fz18_0 fc18_0 fz18_1 fc18_1 fz18_2 fc18_2 fz18_3 fc18_3 hx18
  exact bodyPost_ret (results_cell1 rfl _ _ _ _ _ _ _ rfl HQ18s.out Tryz.underlying41 rfl (by kernel_rfl)) rfl (by rw [HRES.out.1, HRES.out.2.1, HRES.out.2.2]; exact ⟨s12, A12, n12, c12, t12, B12, m12, d12, rfl, HR17hr12w5.out, HR17hs12w5.out, HC0_5.out⟩)
 ·have HRES := hJ (rg_big (p := p) (q := q) (fun g => hc g.2))
  have HF1 := hJ (decide_eq_true h1)
  have HF2 := hJ (decide_eq_false hc)
  clear hc h1
  obtain ⟨x19, hx19⟩ := nmz ((w.alloc (.cells #[.bool s0, .slice A0 n0 c0, .bool t0, .slice B0 m0 d0] 41)).alloc (.cells #[.bool false, .slice none 0 0, .bool false, .slice none 0 0] 41))
  have HB19 := hJ (show Below w.heap.size w x19 by rw [← hx19]; exact (((Below.refl _ _).alloc (Nat.le_refl _) _).alloc (by simp only [World.size_alloc]; omega) _))
  have HQ19x0 := hJ (show BX 41 x19 w.heap.size #[.bool s0, .slice A0 n0 c0, .bool t0, .slice B0 m0 d0] by rw [← hx19]; exact ((BX.at rfl).alloc _))
  have HG19x0 := hJ (show w.heap.size ≤ w.heap.size by omega)
  have HL19x0 := hJ (show w.heap.size < x19.heap.size from HQ19x0.out.lt)
  have HQ19x1 := hJ (show BX 41 x19 (w.heap.size + 1) #[.bool false, .slice none 0 0, .bool false, .slice none 0 0] by rw [← hx19]; exact (BX.at (by simp only [World.size_alloc])))
  have HG19x1 := hJ (show w.heap.size ≤ w.heap.size + 1 by omega)
  have HL19x1 := hJ (show w.heap.size + 1 < x19.heap.size from HQ19x1.out.lt)
  obtain ⟨cl20, cl21⟩ := HQ19x0.out.c2 0 1 rfl rfl
  have HP0w1 := hJ (RNo.new HP0.out HB19.out)
  go_enter Tryz.func112, Tryz.ntmps112
  go_wp2_with fail
  clear hx19 cl20 cl21
  refine (fits_any p s0 A0 n0 c0 x19 HP0w1.out (Nat.le_trans (B2.rlen HP0w1.out HBX.out) (by have := HK.out; omega))).mono ?_
  rw [HF1.out]
  rintro e w22 ⟨rfl, hb⟩
  have HB22 := hJ hb
  clear hb
  have HQ19x0w2 := hJ (BX.new HQ19x0.out HB22.out)
  obtain ⟨cl23, cl24⟩ := HQ19x0w2.out.c2 2 3 rfl rfl
  have HC0_2 := hJ (bt HB19.out HB22.out)
  have HP1w2 := hJ (RNo.new HP1.out HC0_2.out)
  go_wp2_with fail
  clear cl23 cl24
  refine (fits_any q t0 B0 m0 d0 w22 HP1w2.out (Nat.le_trans (B2.rlen HP1w2.out HBD.out) (by have := HK.out; omega))).mono ?_
  rw [HF2.out]
  rintro e w25 ⟨rfl, hb⟩
  have HB25 := hJ hb
  clear hb
  go_wp2_with fail
  refine (r4of_any 0 w25 (by decide)).mono ?_
  rintro e w26 ⟨s13, A13, n13, c13, t13, B13, m13, d13, rfl, hr13, hs13, hb⟩
  have HB26 := hJ hb
  have HR26hr13 := hJ hr13
  have HR26hs13 := hJ hs13
  clear hb hr13 hs13
  have HC1_4 := hJ (bt (bt HB22.out HB25.out) HB26.out)
  have HQ19x1w4 := hJ (BX.new HQ19x1.out HC1_4.out)
  have fz27_0 := HQ19x1w4.out.frozen 0
  have fc27_0 := HQ19x1w4.out.cell 0 rfl
  have fz27_1 := HQ19x1w4.out.frozen 1
  have fc27_1 := HQ19x1w4.out.cell 1 rfl
  have fz27_2 := HQ19x1w4.out.frozen 2
  have fc27_2 := HQ19x1w4.out.cell 2 rfl
  have fz27_3 := HQ19x1w4.out.frozen 3
  have fc27_3 := HQ19x1w4.out.cell 3 rfl
  obtain ⟨x27, hx27⟩ := nmz (World.setCell (World.setCell (World.setCell (World.setCell w26 ⟨w.heap.size + 1, 0, none⟩ (.bool s13)) ⟨w.heap.size + 1, 1, none⟩ (.slice A13 n13 c13)) ⟨w.heap.size + 1, 2, none⟩ (.bool t13)) ⟨w.heap.size + 1, 3, none⟩ (.slice B13 m13 d13))
  have HE27 := hJ (show sto w26 (w.heap.size + 1) 0 [.bool s13, .slice A13 n13 c13, .bool t13, .slice B13 m13 d13] = x27 from hx27)
  have HQ27s := hJ (show BX 41 x27 (w.heap.size + 1) #[.bool s13, .slice A13 n13 c13, .bool t13, .slice B13 m13 d13] by rw [← HE27.out]; exact BX.put HQ19x1w4.out _ _)
  have HC0_5 := hJ (show Below w.heap.size w x27 by rw [← HE27.out]; exact below_sto (bt (bt HC0_2.out HB25.out) HB26.out) HG19x1.out _ _)
  have HR26hr13w5 := hJ (show RN x27 s13 A13 n13 c13 0 by rw [← HE27.out]; exact RNo.sto HR26hr13.out HQ19x1w4.out rfl _ _)
  have HR26hs13w5 := hJ (show RN x27 t13 B13 m13 d13 1 by rw [← HE27.out]; exact RNo.sto HR26hs13.out HQ19x1w4.out rfl _ _)
  go_wp2
  clear fz27_0 fc27_0 fz27_1 fc27_1 fz27_2 fc27_2 fz27_3 fc27_3 hx27
  exact bodyPost_ret (results_cell1 rfl _ _ _ _ _ _ _ rfl HQ27s.out Tryz.underlying41 rfl (by kernel_rfl)) rfl (by rw [HRES.out.1, HRES.out.2.1, HRES.out.2.2]; exact ⟨s13, A13, n13, c13, t13, B13, m13, d13, rfl, HR26hr13w5.out, HR26hs13w5.out, HC0_5.out⟩)
 ·have HRES := hJ (rg_ok (p := p) (q := q) ⟨h1, h2⟩)
  have HF1 := hJ (decide_eq_true h1)
  have HF2 := hJ (decide_eq_true h2)
  clear h1 h2
  obtain ⟨x28, hx28⟩ := nmz ((w.alloc (.cells #[.bool s0, .slice A0 n0 c0, .bool t0, .slice B0 m0 d0] 41)).alloc (.cells #[.bool false, .slice none 0 0, .bool false, .slice none 0 0] 41))
  have HB28 := hJ (show Below w.heap.size w x28 by rw [← hx28]; exact (((Below.refl _ _).alloc (Nat.le_refl _) _).alloc (by simp only [World.size_alloc]; omega) _))
  have HQ28x0 := hJ (show BX 41 x28 w.heap.size #[.bool s0, .slice A0 n0 c0, .bool t0, .slice B0 m0 d0] by rw [← hx28]; exact ((BX.at rfl).alloc _))
  have HG28x0 := hJ (show w.heap.size ≤ w.heap.size by omega)
  have HL28x0 := hJ (show w.heap.size < x28.heap.size from HQ28x0.out.lt)
  have HQ28x1 := hJ (show BX 41 x28 (w.heap.size + 1) #[.bool false, .slice none 0 0, .bool false, .slice none 0 0] by rw [← hx28]; exact (BX.at (by simp only [World.size_alloc])))
  have HG28x1 := hJ (show w.heap.size ≤ w.heap.size + 1 by omega)
  have HL28x1 := hJ (show w.heap.size + 1 < x28.heap.size from HQ28x1.out.lt)
  obtain ⟨cl29, cl30⟩ := HQ28x0.out.c2 0 1 rfl rfl
  have HP0w1 := hJ (RNo.new HP0.out HB28.out)
  go_enter Tryz.func112, Tryz.ntmps112
  go_wp2_with fail
  clear hx28 cl29 cl30
  refine (fits_any p s0 A0 n0 c0 x28 HP0w1.out (Nat.le_trans (B2.rlen HP0w1.out HBX.out) (by have := HK.out; omega))).mono ?_
  rw [HF1.out]
  rintro e w31 ⟨rfl, hb⟩
  have HB31 := hJ hb
  clear hb
  have HQ28x0w2 := hJ (BX.new HQ28x0.out HB31.out)
  obtain ⟨cl32, cl33⟩ := HQ28x0w2.out.c2 2 3 rfl rfl
  have HC0_2 := hJ (bt HB28.out HB31.out)
  have HP1w2 := hJ (RNo.new HP1.out HC0_2.out)
  go_wp2_with fail
  clear cl32 cl33
  refine (fits_any q t0 B0 m0 d0 w31 HP1w2.out (Nat.le_trans (B2.rlen HP1w2.out HBD.out) (by have := HK.out; omega))).mono ?_
  rw [HF2.out]
  rintro e w34 ⟨rfl, hb⟩
  have HB34 := hJ hb
  clear hb
  have HQ28x0w3 := hJ (BX.new HQ28x0w2.out HB34.out)
  obtain ⟨cl35, cl36, cl37, cl38⟩ := HQ28x0w3.out.c4 0 1 2 3 rfl rfl rfl rfl
  have HC1_3 := hJ (bt HB31.out HB34.out)
  have HQ28x1w3 := hJ (BX.new HQ28x1.out HC1_3.out)
  have fz39_0 := HQ28x1w3.out.frozen 0
  have fc39_0 := HQ28x1w3.out.cell 0 rfl
  have fz39_1 := HQ28x1w3.out.frozen 1
  have fc39_1 := HQ28x1w3.out.cell 1 rfl
  have fz39_2 := HQ28x1w3.out.frozen 2
  have fc39_2 := HQ28x1w3.out.cell 2 rfl
  have fz39_3 := HQ28x1w3.out.frozen 3
  have fc39_3 := HQ28x1w3.out.cell 3 rfl
  obtain ⟨x39, hx39⟩ := nmz (World.setCell (World.setCell (World.setCell (World.setCell w34 ⟨w.heap.size + 1, 0, none⟩ (.bool s0)) ⟨w.heap.size + 1, 1, none⟩ (.slice A0 n0 c0)) ⟨w.heap.size + 1, 2, none⟩ (.bool t0)) ⟨w.heap.size + 1, 3, none⟩ (.slice B0 m0 d0))
  have HE39 := hJ (show sto w34 (w.heap.size + 1) 0 [.bool s0, .slice A0 n0 c0, .bool t0, .slice B0 m0 d0] = x39 from hx39)
  have HQ39s := hJ (show BX 41 x39 (w.heap.size + 1) #[.bool s0, .slice A0 n0 c0, .bool t0, .slice B0 m0 d0] by rw [← HE39.out]; exact BX.put HQ28x1w3.out _ _)
  have HC0_4 := hJ (show Below w.heap.size w x39 by rw [← HE39.out]; exact below_sto (bt HC0_2.out HB34.out) HG28x1.out _ _)
  have HP0w3 := hJ (RNo.new HP0w1.out HC1_3.out)
  have HP0w4 := hJ (show RN x39 s0 A0 n0 c0 p by rw [← HE39.out]; exact RNo.sto HP0w3.out HQ28x1w3.out rfl _ _)
  have HP1w3 := hJ (RNo.new HP1w2.out HB34.out)
  have HP1w4 := hJ (show RN x39 t0 B0 m0 d0 q by rw [← HE39.out]; exact RNo.sto HP1w3.out HQ28x1w3.out rfl _ _)
  go_wp2
  clear cl35 cl36 cl37 cl38 fz39_0 fc39_0 fz39_1 fc39_1 fz39_2 fc39_2 fz39_3 fc39_3 hx39
  exact bodyPost_ret (results_cell1 rfl _ _ _ _ _ _ _ rfl HQ39s.out Tryz.underlying41 rfl (by kernel_rfl)) rfl (by rw [HRES.out.1, HRES.out.2.1, HRES.out.2.2]; exact ⟨s0, A0, n0, c0, t0, B0, m0, d0, rfl, HP0w4.out, HP1w4.out, HC0_4.out⟩)
set_option maxRecDepth 100000 in
set_option maxHeartbeats 1600000 in
theorem r4mul_any (p q r s : Int) (k : Nat) (s0 : Bool) (A0 : Option Addr) (n0 c0 : Nat) (t0 : Bool) (B0 : Option Addr) (m0 d0 : Nat) (s1 : Bool) (A1 : Option Addr) (n1 c1 : Nat) (t1 : Bool) (B1 : Option Addr) (m1 d1 : Nat) (w : World) (hp : RN w s0 A0 n0 c0 p) (hq : RN w t0 B0 m0 d0 q) (hr : RN w s1 A1 n1 c1 r) (hs : RN w t1 B1 m1 d1 s) (hk : k ≤ 20000) (ha : Rk k p q) (hb : Rk k r s) :
  Calls Tryz.prog 38 #[.agg #[.bool s0, .slice A0 n0 c0, .bool t0, .slice B0 m0 d0], .agg #[.bool s1, .slice A1 n1 c1, .bool t1, .slice B1 m1 d1]] w (RetRE (muP p q r s) (muQ p q r s) (muC p q r s) w) := by
 have HP0 := hJ hp
 have HP1 := hJ hq
 have HP2 := hJ hr
 have HP3 := hJ hs
 have HK := hJ hk
 have HA := hJ ha
 have HB := hJ hb
 clear hp hq hr hs hk ha hb
 have HBN := hJ (show (p * r).natAbs < B2 (k + k) from B2.mul HA.out.2.1 HB.out.2.1)
 have HBM := hJ (show (q * s).natAbs < B2 (k + k) from B2.mul HA.out.2.2 HB.out.2.2)
 have HRG := hJ (mu_rg (p := p) (q := q) (r := r) (s := s) HA.out.1 HB.out.1)
 have HMB := hJ (mk_b2 (x := p * r) (d := q * s) HBN.out HBM.out)
 obtain ⟨X, hX⟩ := nmz (p * r)
 obtain ⟨D, hD⟩ := nmz (q * s)
 have HX := hJ hX
 have HD := hJ hD
 rw [hX, hD] at HRG HMB
 rw [hX] at HBN
 rw [hD] at HBM
 clear hX hD
 obtain ⟨x1, hx1⟩ := nmz (((w.alloc (.cells #[.bool s0, .slice A0 n0 c0, .bool t0, .slice B0 m0 d0] 41)).alloc (.cells #[.bool s1, .slice A1 n1 c1, .bool t1, .slice B1 m1 d1] 41)).alloc (.cells #[.bool false, .slice none 0 0, .bool false, .slice none 0 0] 41))
 have HB1 := hJ (show Below w.heap.size w x1 by rw [← hx1]; exact ((((Below.refl _ _).alloc (Nat.le_refl _) _).alloc (by simp only [World.size_alloc]; omega) _).alloc (by simp only [World.size_alloc]; omega) _))
 have HQ1x0 := hJ (show BX 41 x1 w.heap.size #[.bool s0, .slice A0 n0 c0, .bool t0, .slice B0 m0 d0] by rw [← hx1]; exact (((BX.at rfl).alloc _).alloc _))
 have HG1x0 := hJ (show w.heap.size ≤ w.heap.size by omega)
 have HL1x0 := hJ (show w.heap.size < x1.heap.size from HQ1x0.out.lt)
 have HQ1x1 := hJ (show BX 41 x1 (w.heap.size + 1) #[.bool s1, .slice A1 n1 c1, .bool t1, .slice B1 m1 d1] by rw [← hx1]; exact ((BX.at (by simp only [World.size_alloc])).alloc _))
 have HG1x1 := hJ (show w.heap.size ≤ w.heap.size + 1 by omega)
 have HL1x1 := hJ (show w.heap.size + 1 < x1.heap.size from HQ1x1.out.lt)
 have HQ1x2 := hJ (show BX 41 x1 (w.heap.size + 2) #[.bool false, .slice none 0 0, .bool false, .slice none 0 0] by rw [← hx1]; exact (BX.at (by simp only [World.size_alloc])))
 have HG1x2 := hJ (show w.heap.size ≤ w.heap.size + 2 by omega)
 have HL1x2 := hJ (show w.heap.size + 2 < x1.heap.size from HQ1x2.out.lt)
 have HS2 : Hid (∀ w', Below x1.heap.size x1 w' → (fun w' : World => w'.cell? ⟨w.heap.size, 0, none⟩ = some (.bool s0) ∧ w'.cell? ⟨w.heap.size, 1, none⟩ = some (.slice A0 n0 c0) ∧ w'.cell? ⟨w.heap.size + 1, 0, none⟩ = some (.bool s1) ∧ w'.cell? ⟨w.heap.size + 1, 1, none⟩ = some (.slice A1 n1 c1) ∧ w'.cell? ⟨w.heap.size, 2, none⟩ = some (.bool t0) ∧ w'.cell? ⟨w.heap.size, 3, none⟩ = some (.slice B0 m0 d0) ∧ w'.cell? ⟨w.heap.size + 1, 2, none⟩ = some (.bool t1) ∧ w'.cell? ⟨w.heap.size + 1, 3, none⟩ = some (.slice B1 m1 d1) ∧ Below x1.heap.size x1 w') w') := hJ (fun w' hb => ⟨(BX.new HQ1x0.out hb).cell 0 rfl, (BX.new HQ1x0.out hb).cell 1 rfl, (BX.new HQ1x1.out hb).cell 0 rfl, (BX.new HQ1x1.out hb).cell 1 rfl, (BX.new HQ1x0.out hb).cell 2 rfl, (BX.new HQ1x0.out hb).cell 3 rfl, (BX.new HQ1x1.out hb).cell 2 rfl, (BX.new HQ1x1.out hb).cell 3 rfl, hb⟩)
 have HP0w1 := hJ (RNo.new HP0.out HB1.out)
 have HP2w1 := hJ (RNo.new HP2.out HB1.out)
 have HP1w1 := hJ (RNo.new HP1.out HB1.out)
 have HP3w1 := hJ (RNo.new HP3.out HB1.out)
 go_enter Tryz.func38, Tryz.ntmps38
 go_wp2_with fail
 clear hx1
 obtain ⟨v2, hv2⟩ := nmz (World.drew x1)
 have HX2 := hJ (show Below x1.heap.size x1 v2 by rw [← hv2]; exact (Below.refl _ _).drew)
 refine wp_region_held_drew (S := (fun w' : World => w'.cell? ⟨w.heap.size, 0, none⟩ = some (.bool s0) ∧ w'.cell? ⟨w.heap.size, 1, none⟩ = some (.slice A0 n0 c0) ∧ w'.cell? ⟨w.heap.size + 1, 0, none⟩ = some (.bool s1) ∧ w'.cell? ⟨w.heap.size + 1, 1, none⟩ = some (.slice A1 n1 c1) ∧ w'.cell? ⟨w.heap.size, 2, none⟩ = some (.bool t0) ∧ w'.cell? ⟨w.heap.size, 3, none⟩ = some (.slice B0 m0 d0) ∧ w'.cell? ⟨w.heap.size + 1, 2, none⟩ = some (.bool t1) ∧ w'.cell? ⟨w.heap.size + 1, 3, none⟩ = some (.slice B1 m1 d1) ∧ Below x1.heap.size x1 w')) (by kernel_rfl) ?_ (fun hHeld => ?_)
 ·rw [hv2]
  exact HS2.out _ HX2.out
 rw [hv2] at hHeld ⊢
 clear hv2
 refine tq 0 ?_
 try simp only [PT]
 refine tq 1 ?_
 try simp only [PT]
 refine tq 2 ?_
 try simp only [PT]
 refine tq 3 ?_
 try simp only [PT]
 refine tq 5 ?_
 try simp only [PT]
 refine tq 6 ?_
 try simp only [PT]
 refine tq 7 ?_
 try simp only [PT]
 refine tq 8 ?_
 try simp only [PT]
 refine wpAnyH_name (fun F hF a0 ha0 L0 hL0 => ?_)
 have J1_4_9_10_14 : ∀ (s11 : Bool) (A11 : Option Addr) (n11 : Nat) (c11 : Nat) (s12 : Bool) (A12 : Option Addr) (n12 : Nat) (c12 : Nat) (s13 : Bool) (A13 : Option Addr) (n13 : Nat) (c13 : Nat) (t13 : Bool) (B13 : Option Addr) (m13 : Nat) (d13 : Nat) (g1_14 : Nat) (v : World), Hid (Below x1.heap.size x1 v) → Hid (RN v s11 A11 n11 c11 X) → Hid (RN v s12 A12 n12 c12 D) → Hid (RN v s13 A13 n13 c13 (mkP X D)) → Hid (RN v t13 B13 m13 d13 (mkQ X D)) → Hid (BX 41 v g1_14 #[.bool false, .slice none 0 0, .bool false, .slice none 0 0]) → Hid (x1.heap.size ≤ g1_14) → F 2 (Array.setIfInBounds (Array.setIfInBounds (Array.setIfInBounds (Array.setIfInBounds (Array.setIfInBounds (Array.setIfInBounds (Array.setIfInBounds L0 4 true) 9 true) 10 true) 14 true) 11 true) 12 true) 13 true) (Act.put (Act.put (Act.put (Act.put (Act.put (Act.put (Act.put a0 (some 13) (.agg #[.bool s11, .slice A11 n11 c11])) (some 18) (.agg #[.bool s12, .slice A12 n12 c12])) (some 19) (.tuple #[.agg #[.bool s13, .slice A13 n13 c13, .bool t13, .slice B13 m13 d13], .int .i64 (mkC D)])) (some 6) (.pointer (some ⟨g1_14, 0, none⟩))) (some 8) (.tuple #[.agg #[.bool s13, .slice A13 n13 c13, .bool t13, .slice B13 m13 d13], .int .i64 (mkC D)])) (some 20) (.agg #[.bool s13, .slice A13 n13 c13, .bool t13, .slice B13 m13 d13])) (some 21) (.int .i64 (mkC D))) v := by
  intro s11 A11 n11 c11 s12 A12 n12 c12 s13 A13 n13 c13 t13 B13 m13 d13 g1_14 v HXj HZ4hr11j HZ9hr12j HZ10hr13j HZ10hs13j HPg1_14j HGg1_14j
  subst hF ha0 hL0
  simp only [PT] at  ⊢
  have hHeld := HS2.out _ HXj.out
  refine wpAnyH_ready (rs := [15]) (by kernel_rfl) (by simp) ?_
  refine .cons rfl (fun K hK => ?_) .nil
  have z3_0 := HPg1_14j.out.cell 0 rfl
  have y3_0 := HPg1_14j.out.frozen 0
  have z3_1 := HPg1_14j.out.cell 1 rfl
  have y3_1 := HPg1_14j.out.frozen 1
  have z3_2 := HPg1_14j.out.cell 2 rfl
  have y3_2 := HPg1_14j.out.frozen 2
  have z3_3 := HPg1_14j.out.cell 3 rfl
  have y3_3 := HPg1_14j.out.frozen 3
  have z3 := HPg1_14j.out.lt
  go_simp
  obtain ⟨v3, hV⟩ := nmz (World.setCell (World.setCell (World.setCell (World.setCell v ⟨g1_14, 0, none⟩ (.bool s13)) ⟨g1_14, 1, none⟩ (.slice A13 n13 c13)) ⟨g1_14, 2, none⟩ (.bool t13)) ⟨g1_14, 3, none⟩ (.slice B13 m13 d13))
  rw [hV]
  have HE3 := hJ (show sto v g1_14 0 [.bool s13, .slice A13 n13 c13, .bool t13, .slice B13 m13 d13] = v3 from hV)
  clear hV z3 z3_0 y3_0 z3_1 y3_1 z3_2 y3_2 z3_3 y3_3
  have HX3 := hJ (show Below x1.heap.size x1 v3 by rw [← HE3.out]; exact below_sto HXj.out HGg1_14j.out _ _)
  have HZ3_0 := hJ (show RN v3 s11 A11 n11 c11 X by rw [← HE3.out]; exact RNo.sto HZ4hr11j.out HPg1_14j.out rfl _ _)
  have HZ3_1 := hJ (show RN v3 s12 A12 n12 c12 D by rw [← HE3.out]; exact RNo.sto HZ9hr12j.out HPg1_14j.out rfl _ _)
  have HZ3_2 := hJ (show RN v3 s13 A13 n13 c13 (mkP X D) by rw [← HE3.out]; exact RNo.sto HZ10hr13j.out HPg1_14j.out rfl _ _)
  have HZ3_3 := hJ (show RN v3 t13 B13 m13 d13 (mkQ X D) by rw [← HE3.out]; exact RNo.sto HZ10hs13j.out HPg1_14j.out rfl _ _)
  have HP3g1_14 := hJ (show BX 41 v3 g1_14 #[.bool s13, .slice A13 n13 c13, .bool t13, .slice B13 m13 d13] by rw [← HE3.out]; exact BX.put HPg1_14j.out _ _)
  clear hHeld
  refine hK.out _ _ (HS2.out _ HX3.out) (fun hHeld => ?_)
  clear hK K
  try simp only [PT]
  refine tq 16 ?_
  try simp only [PT]
  refine wpAnyH_done (by kernel_rfl) ?_ _
  clear hHeld
  have HL4 := hJ (show g1_14 < v3.heap.size from HP3g1_14.out.lt)
  obtain ⟨cl5, cl6, cl7, cl8⟩ := HP3g1_14.out.c4 0 1 2 3 rfl rfl rfl rfl
  go_wp2_with fail
  clear cl5 cl6 cl7 cl8
  refine (r4ranged_any (mkP X D) (mkQ X D) (mkC D) (k + k + 1) s13 A13 n13 c13 t13 B13 m13 d13 v3 HZ3_2.out HZ3_3.out (by have := HK.out; omega) HMB.out.1 HMB.out.2).mono ?_
  rintro e w9 ⟨s14, A14, n14, c14, t14, B14, m14, d14, rfl, hr14, hs14, hb⟩
  have HB9 := hJ hb
  have HR9hr14 := hJ hr14
  have HR9hs14 := hJ hs14
  clear hb hr14 hs14
  have HC1_3 := hJ (bt HX3.out HB9.out)
  have HQ1x2w3 := hJ (BX.new HQ1x2.out HC1_3.out)
  have fz10_0 := HQ1x2w3.out.frozen 0
  have fc10_0 := HQ1x2w3.out.cell 0 rfl
  have fz10_1 := HQ1x2w3.out.frozen 1
  have fc10_1 := HQ1x2w3.out.cell 1 rfl
  have fz10_2 := HQ1x2w3.out.frozen 2
  have fc10_2 := HQ1x2w3.out.cell 2 rfl
  have fz10_3 := HQ1x2w3.out.frozen 3
  have fc10_3 := HQ1x2w3.out.cell 3 rfl
  obtain ⟨x10, hx10⟩ := nmz (World.setCell (World.setCell (World.setCell (World.setCell w9 ⟨w.heap.size + 2, 0, none⟩ (.bool s14)) ⟨w.heap.size + 2, 1, none⟩ (.slice A14 n14 c14)) ⟨w.heap.size + 2, 2, none⟩ (.bool t14)) ⟨w.heap.size + 2, 3, none⟩ (.slice B14 m14 d14))
  have HE10 := hJ (show sto w9 (w.heap.size + 2) 0 [.bool s14, .slice A14 n14 c14, .bool t14, .slice B14 m14 d14] = x10 from hx10)
  have HQ10s := hJ (show BX 41 x10 (w.heap.size + 2) #[.bool s14, .slice A14 n14 c14, .bool t14, .slice B14 m14 d14] by rw [← HE10.out]; exact BX.put HQ1x2w3.out _ _)
  have HC0_4 := hJ (show Below w.heap.size w x10 by rw [← HE10.out]; exact below_sto (bt (bt HB1.out HX3.out) HB9.out) HG1x2.out _ _)
  have HR9hr14w4 := hJ (show RN x10 s14 A14 n14 c14 (rgP (mkP X D) (mkQ X D) (mkC D)) by rw [← HE10.out]; exact RNo.sto HR9hr14.out HQ1x2w3.out rfl _ _)
  have HR9hs14w4 := hJ (show RN x10 t14 B14 m14 d14 (rgQ (mkP X D) (mkQ X D) (mkC D)) by rw [← HE10.out]; exact RNo.sto HR9hs14.out HQ1x2w3.out rfl _ _)
  go_wp2
  clear fz10_0 fc10_0 fz10_1 fc10_1 fz10_2 fc10_2 fz10_3 fc10_3 hx10
  exact bodyPost_ret (results_cell1 rfl _ _ _ _ _ _ _ rfl HQ10s.out Tryz.underlying41 rfl (by kernel_rfl)) rfl (by rw [← HRG.out.1, ← HRG.out.2.1, ← HRG.out.2.2]; exact ⟨s14, A14, n14, c14, t14, B14, m14, d14, rfl, HR9hr14w4.out, HR9hs14w4.out, HC0_4.out⟩)
 have J1_4_9_10 : ∀ (s11 : Bool) (A11 : Option Addr) (n11 : Nat) (c11 : Nat) (s12 : Bool) (A12 : Option Addr) (n12 : Nat) (c12 : Nat) (s13 : Bool) (A13 : Option Addr) (n13 : Nat) (c13 : Nat) (t13 : Bool) (B13 : Option Addr) (m13 : Nat) (d13 : Nat) (v : World), Hid (Below x1.heap.size x1 v) → Hid (RN v s11 A11 n11 c11 X) → Hid (RN v s12 A12 n12 c12 D) → Hid (RN v s13 A13 n13 c13 (mkP X D)) → Hid (RN v t13 B13 m13 d13 (mkQ X D)) → F 3 (Array.setIfInBounds (Array.setIfInBounds (Array.setIfInBounds (Array.setIfInBounds (Array.setIfInBounds (Array.setIfInBounds L0 4 true) 9 true) 10 true) 11 true) 12 true) 13 true) (Act.put (Act.put (Act.put (Act.put (Act.put (Act.put a0 (some 13) (.agg #[.bool s11, .slice A11 n11 c11])) (some 18) (.agg #[.bool s12, .slice A12 n12 c12])) (some 19) (.tuple #[.agg #[.bool s13, .slice A13 n13 c13, .bool t13, .slice B13 m13 d13], .int .i64 (mkC D)])) (some 8) (.tuple #[.agg #[.bool s13, .slice A13 n13 c13, .bool t13, .slice B13 m13 d13], .int .i64 (mkC D)])) (some 20) (.agg #[.bool s13, .slice A13 n13 c13, .bool t13, .slice B13 m13 d13])) (some 21) (.int .i64 (mkC D))) v := by
  intro s11 A11 n11 c11 s12 A12 n12 c12 s13 A13 n13 c13 t13 B13 m13 d13 v HXj HZ4hr11j HZ9hr12j HZ10hr13j HZ10hs13j
  subst hF ha0 hL0
  simp only [PT] at J1_4_9_10_14 ⊢
  have hHeld := HS2.out _ HXj.out
  refine wpAnyH_ready (rs := [14]) (by kernel_rfl) (by simp) ?_
  refine .cons rfl (fun K hK => ?_) .nil
  go_simp
  have HB11 := hJ ((Below.refl v.heap.size v).alloc (Nat.le_refl _) (.cells #[.bool false, .slice none 0 0, .bool false, .slice none 0 0] 41))
  have HP11 := hJ (BX.lit v 41 #[.bool false, .slice none 0 0, .bool false, .slice none 0 0])
  obtain ⟨v11, hV⟩ := nmz (World.alloc v (.cells #[.bool false, .slice none 0 0, .bool false, .slice none 0 0] 41))
  obtain ⟨g1_14, hg⟩ := nmz (v.heap.size)
  rw [hV] at HB11 HP11 ⊢
  rw [hg] at HP11 ⊢
  have HG11 := hJ (show x1.heap.size ≤ g1_14 by rw [← hg]; exact HXj.out.size)
  clear hV hg
  have HX11 := hJ (bt HXj.out HB11.out)
  have HZ11_0 := hJ (RNo.new HZ4hr11j.out HB11.out)
  have HZ11_1 := hJ (RNo.new HZ9hr12j.out HB11.out)
  have HZ11_2 := hJ (RNo.new HZ10hr13j.out HB11.out)
  have HZ11_3 := hJ (RNo.new HZ10hs13j.out HB11.out)
  clear hHeld
  refine hK.out _ _ (HS2.out _ HX11.out) (fun hHeld => ?_)
  clear hK K
  try simp only [PT]
  exact wpAnyH_cast (by kernel_rfl) (J1_4_9_10_14 s11 A11 n11 c11 s12 A12 n12 c12 s13 A13 n13 c13 t13 B13 m13 d13 g1_14 v11 HX11 HZ11_0 HZ11_1 HZ11_2 HZ11_3 HP11 HG11)
 have J1_4_9_14 : ∀ (s11 : Bool) (A11 : Option Addr) (n11 : Nat) (c11 : Nat) (s12 : Bool) (A12 : Option Addr) (n12 : Nat) (c12 : Nat) (g1_14 : Nat) (v : World), Hid (Below x1.heap.size x1 v) → Hid (RN v s11 A11 n11 c11 X) → Hid (RN v s12 A12 n12 c12 D) → Hid (BX 41 v g1_14 #[.bool false, .slice none 0 0, .bool false, .slice none 0 0]) → Hid (x1.heap.size ≤ g1_14) → F 6 (Array.setIfInBounds (Array.setIfInBounds (Array.setIfInBounds L0 4 true) 9 true) 14 true) (Act.put (Act.put (Act.put a0 (some 13) (.agg #[.bool s11, .slice A11 n11 c11])) (some 18) (.agg #[.bool s12, .slice A12 n12 c12])) (some 6) (.pointer (some ⟨g1_14, 0, none⟩))) v := by
  intro s11 A11 n11 c11 s12 A12 n12 c12 g1_14 v HXj HZ4hr11j HZ9hr12j HPg1_14j HGg1_14j
  subst hF ha0 hL0
  simp only [PT] at J1_4_9_10_14 ⊢
  have hHeld := HS2.out _ HXj.out
  refine wpAnyH_ready (rs := [10]) (by kernel_rfl) (by simp) ?_
  refine .cons rfl (fun K hK => ?_) .nil
  go_simp
  go_at_call 24
  refine (r4make_any X D (k + k) s11 A11 n11 c11 s12 A12 n12 c12 v HZ4hr11j.out HZ9hr12j.out (by have := HK.out; omega) HBN.out HBM.out).mono ?_
  rintro e v12 ⟨s13, A13, n13, c13, t13, B13, m13, d13, rfl, hr13, hs13, hb⟩
  have HB12 := hJ hb
  have HR12hr13 := hJ hr13
  have HR12hs13 := hJ hs13
  clear hb hr13 hs13
  go_wp2_with fail
  have HX12 := hJ (bt HXj.out HB12.out)
  have HZ12_0 := hJ (RNo.new HZ4hr11j.out HB12.out)
  have HZ12_1 := hJ (RNo.new HZ9hr12j.out HB12.out)
  have HP12g1_14 := hJ (BX.new HPg1_14j.out HB12.out)
  clear hHeld
  refine hK.out _ _ (HS2.out _ HX12.out) (fun hHeld => ?_)
  clear hK K
  try simp only [PT]
  refine tq 11 ?_
  try simp only [PT]
  refine tq 12 ?_
  try simp only [PT]
  refine tq 13 ?_
  try simp only [PT]
  exact wpAnyH_cast (by kernel_rfl) (J1_4_9_10_14 s11 A11 n11 c11 s12 A12 n12 c12 s13 A13 n13 c13 t13 B13 m13 d13 g1_14 v12 HX12 HZ12_0 HZ12_1 HR12hr13 HR12hs13 HP12g1_14 HGg1_14j)
 have J1_4_9 : ∀ (s11 : Bool) (A11 : Option Addr) (n11 : Nat) (c11 : Nat) (s12 : Bool) (A12 : Option Addr) (n12 : Nat) (c12 : Nat) (v : World), Hid (Below x1.heap.size x1 v) → Hid (RN v s11 A11 n11 c11 X) → Hid (RN v s12 A12 n12 c12 D) → F 7 (Array.setIfInBounds (Array.setIfInBounds L0 4 true) 9 true) (Act.put (Act.put a0 (some 13) (.agg #[.bool s11, .slice A11 n11 c11])) (some 18) (.agg #[.bool s12, .slice A12 n12 c12])) v := by
  intro s11 A11 n11 c11 s12 A12 n12 c12 v HXj HZ4hr11j HZ9hr12j
  subst hF ha0 hL0
  simp only [PT] at J1_4_9_10 J1_4_9_14 ⊢
  have hHeld := HS2.out _ HXj.out
  refine wpAnyH_ready (rs := [10, 14]) (by kernel_rfl) (by simp) ?_
  refine .cons rfl (fun K hK => ?_) ?_
  go_simp
  go_at_call 24
  refine (r4make_any X D (k + k) s11 A11 n11 c11 s12 A12 n12 c12 v HZ4hr11j.out HZ9hr12j.out (by have := HK.out; omega) HBN.out HBM.out).mono ?_
  rintro e v13 ⟨s13, A13, n13, c13, t13, B13, m13, d13, rfl, hr13, hs13, hb⟩
  have HB13 := hJ hb
  have HR13hr13 := hJ hr13
  have HR13hs13 := hJ hs13
  clear hb hr13 hs13
  go_wp2_with fail
  have HX13 := hJ (bt HXj.out HB13.out)
  have HZ13_0 := hJ (RNo.new HZ4hr11j.out HB13.out)
  have HZ13_1 := hJ (RNo.new HZ9hr12j.out HB13.out)
  clear hHeld
  refine hK.out _ _ (HS2.out _ HX13.out) (fun hHeld => ?_)
  clear hK K
  try simp only [PT]
  refine tq 11 ?_
  try simp only [PT]
  refine tq 12 ?_
  try simp only [PT]
  refine tq 13 ?_
  try simp only [PT]
  exact wpAnyH_cast (by kernel_rfl) (J1_4_9_10 s11 A11 n11 c11 s12 A12 n12 c12 s13 A13 n13 c13 t13 B13 m13 d13 v13 HX13 HZ13_0 HZ13_1 HR13hr13 HR13hs13)
  refine .cons rfl (fun K hK => ?_) .nil
  go_simp
  have HB14 := hJ ((Below.refl v.heap.size v).alloc (Nat.le_refl _) (.cells #[.bool false, .slice none 0 0, .bool false, .slice none 0 0] 41))
  have HP14 := hJ (BX.lit v 41 #[.bool false, .slice none 0 0, .bool false, .slice none 0 0])
  obtain ⟨v14, hV⟩ := nmz (World.alloc v (.cells #[.bool false, .slice none 0 0, .bool false, .slice none 0 0] 41))
  obtain ⟨g1_14, hg⟩ := nmz (v.heap.size)
  rw [hV] at HB14 HP14 ⊢
  rw [hg] at HP14 ⊢
  have HG14 := hJ (show x1.heap.size ≤ g1_14 by rw [← hg]; exact HXj.out.size)
  clear hV hg
  have HX14 := hJ (bt HXj.out HB14.out)
  have HZ14_0 := hJ (RNo.new HZ4hr11j.out HB14.out)
  have HZ14_1 := hJ (RNo.new HZ9hr12j.out HB14.out)
  clear hHeld
  refine hK.out _ _ (HS2.out _ HX14.out) (fun hHeld => ?_)
  clear hK K
  try simp only [PT]
  exact wpAnyH_cast (by kernel_rfl) (J1_4_9_14 s11 A11 n11 c11 s12 A12 n12 c12 g1_14 v14 HX14 HZ14_0 HZ14_1 HP14 HG14)
 have J1_4_14 : ∀ (s11 : Bool) (A11 : Option Addr) (n11 : Nat) (c11 : Nat) (g1_14 : Nat) (v : World), Hid (Below x1.heap.size x1 v) → Hid (RN v s11 A11 n11 c11 X) → Hid (BX 41 v g1_14 #[.bool false, .slice none 0 0, .bool false, .slice none 0 0]) → Hid (x1.heap.size ≤ g1_14) → F 7 (Array.setIfInBounds (Array.setIfInBounds L0 4 true) 14 true) (Act.put (Act.put a0 (some 13) (.agg #[.bool s11, .slice A11 n11 c11])) (some 6) (.pointer (some ⟨g1_14, 0, none⟩))) v := by
  intro s11 A11 n11 c11 g1_14 v HXj HZ4hr11j HPg1_14j HGg1_14j
  subst hF ha0 hL0
  simp only [PT] at J1_4_9_14 ⊢
  have hHeld := HS2.out _ HXj.out
  refine wpAnyH_ready (rs := [9]) (by kernel_rfl) (by simp) ?_
  refine .cons rfl (fun K hK => ?_) .nil
  go_simp
  go_at_call 18
  refine (mul_any q s t0 t1 B0 B1 m0 d0 m1 d1 v (RNo.new HP1w1.out HXj.out) (RNo.new HP3w1.out HXj.out) (Nat.le_trans (B2.rlen (RNo.new HP1w1.out HXj.out) HA.out.2.2) (by have := HK.out; omega)) (Nat.le_trans (B2.rlen (RNo.new HP3w1.out HXj.out) HB.out.2.2) (by have := HK.out; omega))).mono ?_
  rw [HD.out]
  rintro e v15 ⟨s12, A12, n12, c12, rfl, hr12, hb⟩
  have HB15 := hJ hb
  have HR15hr12 := hJ hr12
  clear hb hr12
  go_wp2_with fail
  have HX15 := hJ (bt HXj.out HB15.out)
  have HZ15_0 := hJ (RNo.new HZ4hr11j.out HB15.out)
  have HP15g1_14 := hJ (BX.new HPg1_14j.out HB15.out)
  clear hHeld
  refine hK.out _ _ (HS2.out _ HX15.out) (fun hHeld => ?_)
  clear hK K
  try simp only [PT]
  exact wpAnyH_cast (by kernel_rfl) (J1_4_9_14 s11 A11 n11 c11 s12 A12 n12 c12 g1_14 v15 HX15 HZ15_0 HR15hr12 HP15g1_14 HGg1_14j)
 have J1_4 : ∀ (s11 : Bool) (A11 : Option Addr) (n11 : Nat) (c11 : Nat) (v : World), Hid (Below x1.heap.size x1 v) → Hid (RN v s11 A11 n11 c11 X) → F 8 (Array.setIfInBounds L0 4 true) (Act.put a0 (some 13) (.agg #[.bool s11, .slice A11 n11 c11])) v := by
  intro s11 A11 n11 c11 v HXj HZ4hr11j
  subst hF ha0 hL0
  simp only [PT] at J1_4_9 J1_4_14 ⊢
  have hHeld := HS2.out _ HXj.out
  refine wpAnyH_ready (rs := [9, 14]) (by kernel_rfl) (by simp) ?_
  refine .cons rfl (fun K hK => ?_) ?_
  go_simp
  go_at_call 18
  refine (mul_any q s t0 t1 B0 B1 m0 d0 m1 d1 v (RNo.new HP1w1.out HXj.out) (RNo.new HP3w1.out HXj.out) (Nat.le_trans (B2.rlen (RNo.new HP1w1.out HXj.out) HA.out.2.2) (by have := HK.out; omega)) (Nat.le_trans (B2.rlen (RNo.new HP3w1.out HXj.out) HB.out.2.2) (by have := HK.out; omega))).mono ?_
  rw [HD.out]
  rintro e v16 ⟨s12, A12, n12, c12, rfl, hr12, hb⟩
  have HB16 := hJ hb
  have HR16hr12 := hJ hr12
  clear hb hr12
  go_wp2_with fail
  have HX16 := hJ (bt HXj.out HB16.out)
  have HZ16_0 := hJ (RNo.new HZ4hr11j.out HB16.out)
  clear hHeld
  refine hK.out _ _ (HS2.out _ HX16.out) (fun hHeld => ?_)
  clear hK K
  try simp only [PT]
  exact wpAnyH_cast (by kernel_rfl) (J1_4_9 s11 A11 n11 c11 s12 A12 n12 c12 v16 HX16 HZ16_0 HR16hr12)
  refine .cons rfl (fun K hK => ?_) .nil
  go_simp
  have HB17 := hJ ((Below.refl v.heap.size v).alloc (Nat.le_refl _) (.cells #[.bool false, .slice none 0 0, .bool false, .slice none 0 0] 41))
  have HP17 := hJ (BX.lit v 41 #[.bool false, .slice none 0 0, .bool false, .slice none 0 0])
  obtain ⟨v17, hV⟩ := nmz (World.alloc v (.cells #[.bool false, .slice none 0 0, .bool false, .slice none 0 0] 41))
  obtain ⟨g1_14, hg⟩ := nmz (v.heap.size)
  rw [hV] at HB17 HP17 ⊢
  rw [hg] at HP17 ⊢
  have HG17 := hJ (show x1.heap.size ≤ g1_14 by rw [← hg]; exact HXj.out.size)
  clear hV hg
  have HX17 := hJ (bt HXj.out HB17.out)
  have HZ17_0 := hJ (RNo.new HZ4hr11j.out HB17.out)
  clear hHeld
  refine hK.out _ _ (HS2.out _ HX17.out) (fun hHeld => ?_)
  clear hK K
  try simp only [PT]
  exact wpAnyH_cast (by kernel_rfl) (J1_4_14 s11 A11 n11 c11 g1_14 v17 HX17 HZ17_0 HP17 HG17)
 have J1_14 : ∀ (g1_14 : Nat) (v : World), Hid (Below x1.heap.size x1 v) → Hid (BX 41 v g1_14 #[.bool false, .slice none 0 0, .bool false, .slice none 0 0]) → Hid (x1.heap.size ≤ g1_14) → F 8 (Array.setIfInBounds L0 14 true) (Act.put a0 (some 6) (.pointer (some ⟨g1_14, 0, none⟩))) v := by
  intro g1_14 v HXj HPg1_14j HGg1_14j
  subst hF ha0 hL0
  simp only [PT] at J1_4_14 ⊢
  have hHeld := HS2.out _ HXj.out
  refine wpAnyH_ready (rs := [4]) (by kernel_rfl) (by simp) ?_
  refine .cons rfl (fun K hK => ?_) .nil
  go_simp
  go_at_call 18
  refine (mul_any p r s0 s1 A0 A1 n0 c0 n1 c1 v (RNo.new HP0w1.out HXj.out) (RNo.new HP2w1.out HXj.out) (Nat.le_trans (B2.rlen (RNo.new HP0w1.out HXj.out) HA.out.2.1) (by have := HK.out; omega)) (Nat.le_trans (B2.rlen (RNo.new HP2w1.out HXj.out) HB.out.2.1) (by have := HK.out; omega))).mono ?_
  rw [HX.out]
  rintro e v18 ⟨s11, A11, n11, c11, rfl, hr11, hb⟩
  have HB18 := hJ hb
  have HR18hr11 := hJ hr11
  clear hb hr11
  go_wp2_with fail
  have HX18 := hJ (bt HXj.out HB18.out)
  have HP18g1_14 := hJ (BX.new HPg1_14j.out HB18.out)
  clear hHeld
  refine hK.out _ _ (HS2.out _ HX18.out) (fun hHeld => ?_)
  clear hK K
  try simp only [PT]
  exact wpAnyH_cast (by kernel_rfl) (J1_4_14 s11 A11 n11 c11 g1_14 v18 HX18 HR18hr11 HP18g1_14 HGg1_14j)
 subst hF ha0 hL0
 simp only [PT] at J1_4 J1_14
 refine wpAnyH_ready (rs := [4, 14]) (by kernel_rfl) (by simp) ?_
 refine .cons rfl (fun K hK => ?_) ?_
 go_simp
 go_at_call 18
 refine (mul_any p r s0 s1 A0 A1 n0 c0 n1 c1 v2 (RNo.new HP0w1.out HX2.out) (RNo.new HP2w1.out HX2.out) (Nat.le_trans (B2.rlen (RNo.new HP0w1.out HX2.out) HA.out.2.1) (by have := HK.out; omega)) (Nat.le_trans (B2.rlen (RNo.new HP2w1.out HX2.out) HB.out.2.1) (by have := HK.out; omega))).mono ?_
 rw [HX.out]
 rintro e v19 ⟨s11, A11, n11, c11, rfl, hr11, hb⟩
 have HB19 := hJ hb
 have HR19hr11 := hJ hr11
 clear hb hr11
 go_wp2_with fail
 have HX19 := hJ (bt HX2.out HB19.out)
 clear hHeld
 refine hK.out _ _ (HS2.out _ HX19.out) (fun hHeld => ?_)
 clear hK K
 try simp only [PT]
 exact wpAnyH_cast (by kernel_rfl) (J1_4 s11 A11 n11 c11 v19 HX19 HR19hr11)
 refine .cons rfl (fun K hK => ?_) .nil
 go_simp
 have HB20 := hJ ((Below.refl v2.heap.size v2).alloc (Nat.le_refl _) (.cells #[.bool false, .slice none 0 0, .bool false, .slice none 0 0] 41))
 have HP20 := hJ (BX.lit v2 41 #[.bool false, .slice none 0 0, .bool false, .slice none 0 0])
 obtain ⟨v20, hV⟩ := nmz (World.alloc v2 (.cells #[.bool false, .slice none 0 0, .bool false, .slice none 0 0] 41))
 obtain ⟨g1_14, hg⟩ := nmz (v2.heap.size)
 rw [hV] at HB20 HP20 ⊢
 rw [hg] at HP20 ⊢
 have HG20 := hJ (show x1.heap.size ≤ g1_14 by rw [← hg]; exact HX2.out.size)
 clear hV hg
 have HX20 := hJ (bt HX2.out HB20.out)
 clear hHeld
 refine hK.out _ _ (HS2.out _ HX20.out) (fun hHeld => ?_)
 clear hK K
 try simp only [PT]
 exact wpAnyH_cast (by kernel_rfl) (J1_14 g1_14 v20 HX20 HP20 HG20)
set_option maxRecDepth 100000 in
set_option maxHeartbeats 1600000 in
theorem r4div_any (p q r s : Int) (k : Nat) (s0 : Bool) (A0 : Option Addr) (n0 c0 : Nat) (t0 : Bool) (B0 : Option Addr) (m0 d0 : Nat) (s1 : Bool) (A1 : Option Addr) (n1 c1 : Nat) (t1 : Bool) (B1 : Option Addr) (m1 d1 : Nat) (w : World) (hp : RN w s0 A0 n0 c0 p) (hq : RN w t0 B0 m0 d0 q) (hr : RN w s1 A1 n1 c1 r) (hs : RN w t1 B1 m1 d1 s) (hk : k ≤ 20000) (ha : Rk k p q) (hb : Rk k r s) :
  Calls Tryz.prog 40 #[.agg #[.bool s0, .slice A0 n0 c0, .bool t0, .slice B0 m0 d0], .agg #[.bool s1, .slice A1 n1 c1, .bool t1, .slice B1 m1 d1]] w (RetRE (dvP p q r s) (dvQ p q r s) (dvC p q r s) w) := by
 have HP0 := hJ hp
 have HP1 := hJ hq
 have HP2 := hJ hr
 have HP3 := hJ hs
 have HK := hJ hk
 have HA := hJ ha
 have HB := hJ hb
 clear hp hq hr hs hk ha hb
 have HBN := hJ (show (p * s).natAbs < B2 (k + k) from B2.mul HA.out.2.1 HB.out.2.2)
 have HBM := hJ (show (q * r).natAbs < B2 (k + k) from B2.mul HA.out.2.2 HB.out.2.1)
 have HRG := hJ (dv_rg (p := p) (q := q) (r := r) (s := s) HA.out.1 HB.out.1)
 have HMB := hJ (mk_b2 (x := p * s) (d := q * r) HBN.out HBM.out)
 obtain ⟨X, hX⟩ := nmz (p * s)
 obtain ⟨D, hD⟩ := nmz (q * r)
 have HX := hJ hX
 have HD := hJ hD
 rw [hX, hD] at HRG HMB
 rw [hX] at HBN
 rw [hD] at HBM
 clear hX hD
 obtain ⟨x1, hx1⟩ := nmz (((w.alloc (.cells #[.bool s0, .slice A0 n0 c0, .bool t0, .slice B0 m0 d0] 41)).alloc (.cells #[.bool s1, .slice A1 n1 c1, .bool t1, .slice B1 m1 d1] 41)).alloc (.cells #[.bool false, .slice none 0 0, .bool false, .slice none 0 0] 41))
 have HB1 := hJ (show Below w.heap.size w x1 by rw [← hx1]; exact ((((Below.refl _ _).alloc (Nat.le_refl _) _).alloc (by simp only [World.size_alloc]; omega) _).alloc (by simp only [World.size_alloc]; omega) _))
 have HQ1x0 := hJ (show BX 41 x1 w.heap.size #[.bool s0, .slice A0 n0 c0, .bool t0, .slice B0 m0 d0] by rw [← hx1]; exact (((BX.at rfl).alloc _).alloc _))
 have HG1x0 := hJ (show w.heap.size ≤ w.heap.size by omega)
 have HL1x0 := hJ (show w.heap.size < x1.heap.size from HQ1x0.out.lt)
 have HQ1x1 := hJ (show BX 41 x1 (w.heap.size + 1) #[.bool s1, .slice A1 n1 c1, .bool t1, .slice B1 m1 d1] by rw [← hx1]; exact ((BX.at (by simp only [World.size_alloc])).alloc _))
 have HG1x1 := hJ (show w.heap.size ≤ w.heap.size + 1 by omega)
 have HL1x1 := hJ (show w.heap.size + 1 < x1.heap.size from HQ1x1.out.lt)
 have HQ1x2 := hJ (show BX 41 x1 (w.heap.size + 2) #[.bool false, .slice none 0 0, .bool false, .slice none 0 0] by rw [← hx1]; exact (BX.at (by simp only [World.size_alloc])))
 have HG1x2 := hJ (show w.heap.size ≤ w.heap.size + 2 by omega)
 have HL1x2 := hJ (show w.heap.size + 2 < x1.heap.size from HQ1x2.out.lt)
 have HS2 : Hid (∀ w', Below x1.heap.size x1 w' → (fun w' : World => w'.cell? ⟨w.heap.size, 0, none⟩ = some (.bool s0) ∧ w'.cell? ⟨w.heap.size, 1, none⟩ = some (.slice A0 n0 c0) ∧ w'.cell? ⟨w.heap.size + 1, 2, none⟩ = some (.bool t1) ∧ w'.cell? ⟨w.heap.size + 1, 3, none⟩ = some (.slice B1 m1 d1) ∧ w'.cell? ⟨w.heap.size, 2, none⟩ = some (.bool t0) ∧ w'.cell? ⟨w.heap.size, 3, none⟩ = some (.slice B0 m0 d0) ∧ w'.cell? ⟨w.heap.size + 1, 0, none⟩ = some (.bool s1) ∧ w'.cell? ⟨w.heap.size + 1, 1, none⟩ = some (.slice A1 n1 c1) ∧ Below x1.heap.size x1 w') w') := hJ (fun w' hb => ⟨(BX.new HQ1x0.out hb).cell 0 rfl, (BX.new HQ1x0.out hb).cell 1 rfl, (BX.new HQ1x1.out hb).cell 2 rfl, (BX.new HQ1x1.out hb).cell 3 rfl, (BX.new HQ1x0.out hb).cell 2 rfl, (BX.new HQ1x0.out hb).cell 3 rfl, (BX.new HQ1x1.out hb).cell 0 rfl, (BX.new HQ1x1.out hb).cell 1 rfl, hb⟩)
 have HP0w1 := hJ (RNo.new HP0.out HB1.out)
 have HP3w1 := hJ (RNo.new HP3.out HB1.out)
 have HP1w1 := hJ (RNo.new HP1.out HB1.out)
 have HP2w1 := hJ (RNo.new HP2.out HB1.out)
 go_enter Tryz.func40, Tryz.ntmps40
 go_wp2_with fail
 clear hx1
 obtain ⟨v2, hv2⟩ := nmz (World.drew x1)
 have HX2 := hJ (show Below x1.heap.size x1 v2 by rw [← hv2]; exact (Below.refl _ _).drew)
 refine wp_region_held_drew (S := (fun w' : World => w'.cell? ⟨w.heap.size, 0, none⟩ = some (.bool s0) ∧ w'.cell? ⟨w.heap.size, 1, none⟩ = some (.slice A0 n0 c0) ∧ w'.cell? ⟨w.heap.size + 1, 2, none⟩ = some (.bool t1) ∧ w'.cell? ⟨w.heap.size + 1, 3, none⟩ = some (.slice B1 m1 d1) ∧ w'.cell? ⟨w.heap.size, 2, none⟩ = some (.bool t0) ∧ w'.cell? ⟨w.heap.size, 3, none⟩ = some (.slice B0 m0 d0) ∧ w'.cell? ⟨w.heap.size + 1, 0, none⟩ = some (.bool s1) ∧ w'.cell? ⟨w.heap.size + 1, 1, none⟩ = some (.slice A1 n1 c1) ∧ Below x1.heap.size x1 w')) (by kernel_rfl) ?_ (fun hHeld => ?_)
 ·rw [hv2]
  exact HS2.out _ HX2.out
 rw [hv2] at hHeld ⊢
 clear hv2
 refine tq 0 ?_
 try simp only [PT]
 refine tq 1 ?_
 try simp only [PT]
 refine tq 2 ?_
 try simp only [PT]
 refine tq 3 ?_
 try simp only [PT]
 refine tq 5 ?_
 try simp only [PT]
 refine tq 6 ?_
 try simp only [PT]
 refine tq 7 ?_
 try simp only [PT]
 refine tq 8 ?_
 try simp only [PT]
 refine wpAnyH_name (fun F hF a0 ha0 L0 hL0 => ?_)
 have J1_4_9_10_14 : ∀ (s11 : Bool) (A11 : Option Addr) (n11 : Nat) (c11 : Nat) (s12 : Bool) (A12 : Option Addr) (n12 : Nat) (c12 : Nat) (s13 : Bool) (A13 : Option Addr) (n13 : Nat) (c13 : Nat) (t13 : Bool) (B13 : Option Addr) (m13 : Nat) (d13 : Nat) (g1_14 : Nat) (v : World), Hid (Below x1.heap.size x1 v) → Hid (RN v s11 A11 n11 c11 X) → Hid (RN v s12 A12 n12 c12 D) → Hid (RN v s13 A13 n13 c13 (mkP X D)) → Hid (RN v t13 B13 m13 d13 (mkQ X D)) → Hid (BX 41 v g1_14 #[.bool false, .slice none 0 0, .bool false, .slice none 0 0]) → Hid (x1.heap.size ≤ g1_14) → F 2 (Array.setIfInBounds (Array.setIfInBounds (Array.setIfInBounds (Array.setIfInBounds (Array.setIfInBounds (Array.setIfInBounds (Array.setIfInBounds L0 4 true) 9 true) 10 true) 14 true) 11 true) 12 true) 13 true) (Act.put (Act.put (Act.put (Act.put (Act.put (Act.put (Act.put a0 (some 13) (.agg #[.bool s11, .slice A11 n11 c11])) (some 18) (.agg #[.bool s12, .slice A12 n12 c12])) (some 19) (.tuple #[.agg #[.bool s13, .slice A13 n13 c13, .bool t13, .slice B13 m13 d13], .int .i64 (mkC D)])) (some 6) (.pointer (some ⟨g1_14, 0, none⟩))) (some 8) (.tuple #[.agg #[.bool s13, .slice A13 n13 c13, .bool t13, .slice B13 m13 d13], .int .i64 (mkC D)])) (some 20) (.agg #[.bool s13, .slice A13 n13 c13, .bool t13, .slice B13 m13 d13])) (some 21) (.int .i64 (mkC D))) v := by
  intro s11 A11 n11 c11 s12 A12 n12 c12 s13 A13 n13 c13 t13 B13 m13 d13 g1_14 v HXj HZ4hr11j HZ9hr12j HZ10hr13j HZ10hs13j HPg1_14j HGg1_14j
  subst hF ha0 hL0
  simp only [PT] at  ⊢
  have hHeld := HS2.out _ HXj.out
  refine wpAnyH_ready (rs := [15]) (by kernel_rfl) (by simp) ?_
  refine .cons rfl (fun K hK => ?_) .nil
  have z3_0 := HPg1_14j.out.cell 0 rfl
  have y3_0 := HPg1_14j.out.frozen 0
  have z3_1 := HPg1_14j.out.cell 1 rfl
  have y3_1 := HPg1_14j.out.frozen 1
  have z3_2 := HPg1_14j.out.cell 2 rfl
  have y3_2 := HPg1_14j.out.frozen 2
  have z3_3 := HPg1_14j.out.cell 3 rfl
  have y3_3 := HPg1_14j.out.frozen 3
  have z3 := HPg1_14j.out.lt
  go_simp
  obtain ⟨v3, hV⟩ := nmz (World.setCell (World.setCell (World.setCell (World.setCell v ⟨g1_14, 0, none⟩ (.bool s13)) ⟨g1_14, 1, none⟩ (.slice A13 n13 c13)) ⟨g1_14, 2, none⟩ (.bool t13)) ⟨g1_14, 3, none⟩ (.slice B13 m13 d13))
  rw [hV]
  have HE3 := hJ (show sto v g1_14 0 [.bool s13, .slice A13 n13 c13, .bool t13, .slice B13 m13 d13] = v3 from hV)
  clear hV z3 z3_0 y3_0 z3_1 y3_1 z3_2 y3_2 z3_3 y3_3
  have HX3 := hJ (show Below x1.heap.size x1 v3 by rw [← HE3.out]; exact below_sto HXj.out HGg1_14j.out _ _)
  have HZ3_0 := hJ (show RN v3 s11 A11 n11 c11 X by rw [← HE3.out]; exact RNo.sto HZ4hr11j.out HPg1_14j.out rfl _ _)
  have HZ3_1 := hJ (show RN v3 s12 A12 n12 c12 D by rw [← HE3.out]; exact RNo.sto HZ9hr12j.out HPg1_14j.out rfl _ _)
  have HZ3_2 := hJ (show RN v3 s13 A13 n13 c13 (mkP X D) by rw [← HE3.out]; exact RNo.sto HZ10hr13j.out HPg1_14j.out rfl _ _)
  have HZ3_3 := hJ (show RN v3 t13 B13 m13 d13 (mkQ X D) by rw [← HE3.out]; exact RNo.sto HZ10hs13j.out HPg1_14j.out rfl _ _)
  have HP3g1_14 := hJ (show BX 41 v3 g1_14 #[.bool s13, .slice A13 n13 c13, .bool t13, .slice B13 m13 d13] by rw [← HE3.out]; exact BX.put HPg1_14j.out _ _)
  clear hHeld
  refine hK.out _ _ (HS2.out _ HX3.out) (fun hHeld => ?_)
  clear hK K
  try simp only [PT]
  refine tq 16 ?_
  try simp only [PT]
  refine wpAnyH_done (by kernel_rfl) ?_ _
  clear hHeld
  have HL4 := hJ (show g1_14 < v3.heap.size from HP3g1_14.out.lt)
  obtain ⟨cl5, cl6, cl7, cl8⟩ := HP3g1_14.out.c4 0 1 2 3 rfl rfl rfl rfl
  go_wp2_with fail
  clear cl5 cl6 cl7 cl8
  refine (r4ranged_any (mkP X D) (mkQ X D) (mkC D) (k + k + 1) s13 A13 n13 c13 t13 B13 m13 d13 v3 HZ3_2.out HZ3_3.out (by have := HK.out; omega) HMB.out.1 HMB.out.2).mono ?_
  rintro e w9 ⟨s14, A14, n14, c14, t14, B14, m14, d14, rfl, hr14, hs14, hb⟩
  have HB9 := hJ hb
  have HR9hr14 := hJ hr14
  have HR9hs14 := hJ hs14
  clear hb hr14 hs14
  have HC1_3 := hJ (bt HX3.out HB9.out)
  have HQ1x2w3 := hJ (BX.new HQ1x2.out HC1_3.out)
  have fz10_0 := HQ1x2w3.out.frozen 0
  have fc10_0 := HQ1x2w3.out.cell 0 rfl
  have fz10_1 := HQ1x2w3.out.frozen 1
  have fc10_1 := HQ1x2w3.out.cell 1 rfl
  have fz10_2 := HQ1x2w3.out.frozen 2
  have fc10_2 := HQ1x2w3.out.cell 2 rfl
  have fz10_3 := HQ1x2w3.out.frozen 3
  have fc10_3 := HQ1x2w3.out.cell 3 rfl
  obtain ⟨x10, hx10⟩ := nmz (World.setCell (World.setCell (World.setCell (World.setCell w9 ⟨w.heap.size + 2, 0, none⟩ (.bool s14)) ⟨w.heap.size + 2, 1, none⟩ (.slice A14 n14 c14)) ⟨w.heap.size + 2, 2, none⟩ (.bool t14)) ⟨w.heap.size + 2, 3, none⟩ (.slice B14 m14 d14))
  have HE10 := hJ (show sto w9 (w.heap.size + 2) 0 [.bool s14, .slice A14 n14 c14, .bool t14, .slice B14 m14 d14] = x10 from hx10)
  have HQ10s := hJ (show BX 41 x10 (w.heap.size + 2) #[.bool s14, .slice A14 n14 c14, .bool t14, .slice B14 m14 d14] by rw [← HE10.out]; exact BX.put HQ1x2w3.out _ _)
  have HC0_4 := hJ (show Below w.heap.size w x10 by rw [← HE10.out]; exact below_sto (bt (bt HB1.out HX3.out) HB9.out) HG1x2.out _ _)
  have HR9hr14w4 := hJ (show RN x10 s14 A14 n14 c14 (rgP (mkP X D) (mkQ X D) (mkC D)) by rw [← HE10.out]; exact RNo.sto HR9hr14.out HQ1x2w3.out rfl _ _)
  have HR9hs14w4 := hJ (show RN x10 t14 B14 m14 d14 (rgQ (mkP X D) (mkQ X D) (mkC D)) by rw [← HE10.out]; exact RNo.sto HR9hs14.out HQ1x2w3.out rfl _ _)
  go_wp2
  clear fz10_0 fc10_0 fz10_1 fc10_1 fz10_2 fc10_2 fz10_3 fc10_3 hx10
  exact bodyPost_ret (results_cell1 rfl _ _ _ _ _ _ _ rfl HQ10s.out Tryz.underlying41 rfl (by kernel_rfl)) rfl (by rw [← HRG.out.1, ← HRG.out.2.1, ← HRG.out.2.2]; exact ⟨s14, A14, n14, c14, t14, B14, m14, d14, rfl, HR9hr14w4.out, HR9hs14w4.out, HC0_4.out⟩)
 have J1_4_9_10 : ∀ (s11 : Bool) (A11 : Option Addr) (n11 : Nat) (c11 : Nat) (s12 : Bool) (A12 : Option Addr) (n12 : Nat) (c12 : Nat) (s13 : Bool) (A13 : Option Addr) (n13 : Nat) (c13 : Nat) (t13 : Bool) (B13 : Option Addr) (m13 : Nat) (d13 : Nat) (v : World), Hid (Below x1.heap.size x1 v) → Hid (RN v s11 A11 n11 c11 X) → Hid (RN v s12 A12 n12 c12 D) → Hid (RN v s13 A13 n13 c13 (mkP X D)) → Hid (RN v t13 B13 m13 d13 (mkQ X D)) → F 3 (Array.setIfInBounds (Array.setIfInBounds (Array.setIfInBounds (Array.setIfInBounds (Array.setIfInBounds (Array.setIfInBounds L0 4 true) 9 true) 10 true) 11 true) 12 true) 13 true) (Act.put (Act.put (Act.put (Act.put (Act.put (Act.put a0 (some 13) (.agg #[.bool s11, .slice A11 n11 c11])) (some 18) (.agg #[.bool s12, .slice A12 n12 c12])) (some 19) (.tuple #[.agg #[.bool s13, .slice A13 n13 c13, .bool t13, .slice B13 m13 d13], .int .i64 (mkC D)])) (some 8) (.tuple #[.agg #[.bool s13, .slice A13 n13 c13, .bool t13, .slice B13 m13 d13], .int .i64 (mkC D)])) (some 20) (.agg #[.bool s13, .slice A13 n13 c13, .bool t13, .slice B13 m13 d13])) (some 21) (.int .i64 (mkC D))) v := by
  intro s11 A11 n11 c11 s12 A12 n12 c12 s13 A13 n13 c13 t13 B13 m13 d13 v HXj HZ4hr11j HZ9hr12j HZ10hr13j HZ10hs13j
  subst hF ha0 hL0
  simp only [PT] at J1_4_9_10_14 ⊢
  have hHeld := HS2.out _ HXj.out
  refine wpAnyH_ready (rs := [14]) (by kernel_rfl) (by simp) ?_
  refine .cons rfl (fun K hK => ?_) .nil
  go_simp
  have HB11 := hJ ((Below.refl v.heap.size v).alloc (Nat.le_refl _) (.cells #[.bool false, .slice none 0 0, .bool false, .slice none 0 0] 41))
  have HP11 := hJ (BX.lit v 41 #[.bool false, .slice none 0 0, .bool false, .slice none 0 0])
  obtain ⟨v11, hV⟩ := nmz (World.alloc v (.cells #[.bool false, .slice none 0 0, .bool false, .slice none 0 0] 41))
  obtain ⟨g1_14, hg⟩ := nmz (v.heap.size)
  rw [hV] at HB11 HP11 ⊢
  rw [hg] at HP11 ⊢
  have HG11 := hJ (show x1.heap.size ≤ g1_14 by rw [← hg]; exact HXj.out.size)
  clear hV hg
  have HX11 := hJ (bt HXj.out HB11.out)
  have HZ11_0 := hJ (RNo.new HZ4hr11j.out HB11.out)
  have HZ11_1 := hJ (RNo.new HZ9hr12j.out HB11.out)
  have HZ11_2 := hJ (RNo.new HZ10hr13j.out HB11.out)
  have HZ11_3 := hJ (RNo.new HZ10hs13j.out HB11.out)
  clear hHeld
  refine hK.out _ _ (HS2.out _ HX11.out) (fun hHeld => ?_)
  clear hK K
  try simp only [PT]
  exact wpAnyH_cast (by kernel_rfl) (J1_4_9_10_14 s11 A11 n11 c11 s12 A12 n12 c12 s13 A13 n13 c13 t13 B13 m13 d13 g1_14 v11 HX11 HZ11_0 HZ11_1 HZ11_2 HZ11_3 HP11 HG11)
 have J1_4_9_14 : ∀ (s11 : Bool) (A11 : Option Addr) (n11 : Nat) (c11 : Nat) (s12 : Bool) (A12 : Option Addr) (n12 : Nat) (c12 : Nat) (g1_14 : Nat) (v : World), Hid (Below x1.heap.size x1 v) → Hid (RN v s11 A11 n11 c11 X) → Hid (RN v s12 A12 n12 c12 D) → Hid (BX 41 v g1_14 #[.bool false, .slice none 0 0, .bool false, .slice none 0 0]) → Hid (x1.heap.size ≤ g1_14) → F 6 (Array.setIfInBounds (Array.setIfInBounds (Array.setIfInBounds L0 4 true) 9 true) 14 true) (Act.put (Act.put (Act.put a0 (some 13) (.agg #[.bool s11, .slice A11 n11 c11])) (some 18) (.agg #[.bool s12, .slice A12 n12 c12])) (some 6) (.pointer (some ⟨g1_14, 0, none⟩))) v := by
  intro s11 A11 n11 c11 s12 A12 n12 c12 g1_14 v HXj HZ4hr11j HZ9hr12j HPg1_14j HGg1_14j
  subst hF ha0 hL0
  simp only [PT] at J1_4_9_10_14 ⊢
  have hHeld := HS2.out _ HXj.out
  refine wpAnyH_ready (rs := [10]) (by kernel_rfl) (by simp) ?_
  refine .cons rfl (fun K hK => ?_) .nil
  go_simp
  go_at_call 24
  refine (r4make_any X D (k + k) s11 A11 n11 c11 s12 A12 n12 c12 v HZ4hr11j.out HZ9hr12j.out (by have := HK.out; omega) HBN.out HBM.out).mono ?_
  rintro e v12 ⟨s13, A13, n13, c13, t13, B13, m13, d13, rfl, hr13, hs13, hb⟩
  have HB12 := hJ hb
  have HR12hr13 := hJ hr13
  have HR12hs13 := hJ hs13
  clear hb hr13 hs13
  go_wp2_with fail
  have HX12 := hJ (bt HXj.out HB12.out)
  have HZ12_0 := hJ (RNo.new HZ4hr11j.out HB12.out)
  have HZ12_1 := hJ (RNo.new HZ9hr12j.out HB12.out)
  have HP12g1_14 := hJ (BX.new HPg1_14j.out HB12.out)
  clear hHeld
  refine hK.out _ _ (HS2.out _ HX12.out) (fun hHeld => ?_)
  clear hK K
  try simp only [PT]
  refine tq 11 ?_
  try simp only [PT]
  refine tq 12 ?_
  try simp only [PT]
  refine tq 13 ?_
  try simp only [PT]
  exact wpAnyH_cast (by kernel_rfl) (J1_4_9_10_14 s11 A11 n11 c11 s12 A12 n12 c12 s13 A13 n13 c13 t13 B13 m13 d13 g1_14 v12 HX12 HZ12_0 HZ12_1 HR12hr13 HR12hs13 HP12g1_14 HGg1_14j)
 have J1_4_9 : ∀ (s11 : Bool) (A11 : Option Addr) (n11 : Nat) (c11 : Nat) (s12 : Bool) (A12 : Option Addr) (n12 : Nat) (c12 : Nat) (v : World), Hid (Below x1.heap.size x1 v) → Hid (RN v s11 A11 n11 c11 X) → Hid (RN v s12 A12 n12 c12 D) → F 7 (Array.setIfInBounds (Array.setIfInBounds L0 4 true) 9 true) (Act.put (Act.put a0 (some 13) (.agg #[.bool s11, .slice A11 n11 c11])) (some 18) (.agg #[.bool s12, .slice A12 n12 c12])) v := by
  intro s11 A11 n11 c11 s12 A12 n12 c12 v HXj HZ4hr11j HZ9hr12j
  subst hF ha0 hL0
  simp only [PT] at J1_4_9_10 J1_4_9_14 ⊢
  have hHeld := HS2.out _ HXj.out
  refine wpAnyH_ready (rs := [10, 14]) (by kernel_rfl) (by simp) ?_
  refine .cons rfl (fun K hK => ?_) ?_
  go_simp
  go_at_call 24
  refine (r4make_any X D (k + k) s11 A11 n11 c11 s12 A12 n12 c12 v HZ4hr11j.out HZ9hr12j.out (by have := HK.out; omega) HBN.out HBM.out).mono ?_
  rintro e v13 ⟨s13, A13, n13, c13, t13, B13, m13, d13, rfl, hr13, hs13, hb⟩
  have HB13 := hJ hb
  have HR13hr13 := hJ hr13
  have HR13hs13 := hJ hs13
  clear hb hr13 hs13
  go_wp2_with fail
  have HX13 := hJ (bt HXj.out HB13.out)
  have HZ13_0 := hJ (RNo.new HZ4hr11j.out HB13.out)
  have HZ13_1 := hJ (RNo.new HZ9hr12j.out HB13.out)
  clear hHeld
  refine hK.out _ _ (HS2.out _ HX13.out) (fun hHeld => ?_)
  clear hK K
  try simp only [PT]
  refine tq 11 ?_
  try simp only [PT]
  refine tq 12 ?_
  try simp only [PT]
  refine tq 13 ?_
  try simp only [PT]
  exact wpAnyH_cast (by kernel_rfl) (J1_4_9_10 s11 A11 n11 c11 s12 A12 n12 c12 s13 A13 n13 c13 t13 B13 m13 d13 v13 HX13 HZ13_0 HZ13_1 HR13hr13 HR13hs13)
  refine .cons rfl (fun K hK => ?_) .nil
  go_simp
  have HB14 := hJ ((Below.refl v.heap.size v).alloc (Nat.le_refl _) (.cells #[.bool false, .slice none 0 0, .bool false, .slice none 0 0] 41))
  have HP14 := hJ (BX.lit v 41 #[.bool false, .slice none 0 0, .bool false, .slice none 0 0])
  obtain ⟨v14, hV⟩ := nmz (World.alloc v (.cells #[.bool false, .slice none 0 0, .bool false, .slice none 0 0] 41))
  obtain ⟨g1_14, hg⟩ := nmz (v.heap.size)
  rw [hV] at HB14 HP14 ⊢
  rw [hg] at HP14 ⊢
  have HG14 := hJ (show x1.heap.size ≤ g1_14 by rw [← hg]; exact HXj.out.size)
  clear hV hg
  have HX14 := hJ (bt HXj.out HB14.out)
  have HZ14_0 := hJ (RNo.new HZ4hr11j.out HB14.out)
  have HZ14_1 := hJ (RNo.new HZ9hr12j.out HB14.out)
  clear hHeld
  refine hK.out _ _ (HS2.out _ HX14.out) (fun hHeld => ?_)
  clear hK K
  try simp only [PT]
  exact wpAnyH_cast (by kernel_rfl) (J1_4_9_14 s11 A11 n11 c11 s12 A12 n12 c12 g1_14 v14 HX14 HZ14_0 HZ14_1 HP14 HG14)
 have J1_4_14 : ∀ (s11 : Bool) (A11 : Option Addr) (n11 : Nat) (c11 : Nat) (g1_14 : Nat) (v : World), Hid (Below x1.heap.size x1 v) → Hid (RN v s11 A11 n11 c11 X) → Hid (BX 41 v g1_14 #[.bool false, .slice none 0 0, .bool false, .slice none 0 0]) → Hid (x1.heap.size ≤ g1_14) → F 7 (Array.setIfInBounds (Array.setIfInBounds L0 4 true) 14 true) (Act.put (Act.put a0 (some 13) (.agg #[.bool s11, .slice A11 n11 c11])) (some 6) (.pointer (some ⟨g1_14, 0, none⟩))) v := by
  intro s11 A11 n11 c11 g1_14 v HXj HZ4hr11j HPg1_14j HGg1_14j
  subst hF ha0 hL0
  simp only [PT] at J1_4_9_14 ⊢
  have hHeld := HS2.out _ HXj.out
  refine wpAnyH_ready (rs := [9]) (by kernel_rfl) (by simp) ?_
  refine .cons rfl (fun K hK => ?_) .nil
  go_simp
  go_at_call 18
  refine (mul_any q r t0 s1 B0 A1 m0 d0 n1 c1 v (RNo.new HP1w1.out HXj.out) (RNo.new HP2w1.out HXj.out) (Nat.le_trans (B2.rlen (RNo.new HP1w1.out HXj.out) HA.out.2.2) (by have := HK.out; omega)) (Nat.le_trans (B2.rlen (RNo.new HP2w1.out HXj.out) HB.out.2.1) (by have := HK.out; omega))).mono ?_
  rw [HD.out]
  rintro e v15 ⟨s12, A12, n12, c12, rfl, hr12, hb⟩
  have HB15 := hJ hb
  have HR15hr12 := hJ hr12
  clear hb hr12
  go_wp2_with fail
  have HX15 := hJ (bt HXj.out HB15.out)
  have HZ15_0 := hJ (RNo.new HZ4hr11j.out HB15.out)
  have HP15g1_14 := hJ (BX.new HPg1_14j.out HB15.out)
  clear hHeld
  refine hK.out _ _ (HS2.out _ HX15.out) (fun hHeld => ?_)
  clear hK K
  try simp only [PT]
  exact wpAnyH_cast (by kernel_rfl) (J1_4_9_14 s11 A11 n11 c11 s12 A12 n12 c12 g1_14 v15 HX15 HZ15_0 HR15hr12 HP15g1_14 HGg1_14j)
 have J1_4 : ∀ (s11 : Bool) (A11 : Option Addr) (n11 : Nat) (c11 : Nat) (v : World), Hid (Below x1.heap.size x1 v) → Hid (RN v s11 A11 n11 c11 X) → F 8 (Array.setIfInBounds L0 4 true) (Act.put a0 (some 13) (.agg #[.bool s11, .slice A11 n11 c11])) v := by
  intro s11 A11 n11 c11 v HXj HZ4hr11j
  subst hF ha0 hL0
  simp only [PT] at J1_4_9 J1_4_14 ⊢
  have hHeld := HS2.out _ HXj.out
  refine wpAnyH_ready (rs := [9, 14]) (by kernel_rfl) (by simp) ?_
  refine .cons rfl (fun K hK => ?_) ?_
  go_simp
  go_at_call 18
  refine (mul_any q r t0 s1 B0 A1 m0 d0 n1 c1 v (RNo.new HP1w1.out HXj.out) (RNo.new HP2w1.out HXj.out) (Nat.le_trans (B2.rlen (RNo.new HP1w1.out HXj.out) HA.out.2.2) (by have := HK.out; omega)) (Nat.le_trans (B2.rlen (RNo.new HP2w1.out HXj.out) HB.out.2.1) (by have := HK.out; omega))).mono ?_
  rw [HD.out]
  rintro e v16 ⟨s12, A12, n12, c12, rfl, hr12, hb⟩
  have HB16 := hJ hb
  have HR16hr12 := hJ hr12
  clear hb hr12
  go_wp2_with fail
  have HX16 := hJ (bt HXj.out HB16.out)
  have HZ16_0 := hJ (RNo.new HZ4hr11j.out HB16.out)
  clear hHeld
  refine hK.out _ _ (HS2.out _ HX16.out) (fun hHeld => ?_)
  clear hK K
  try simp only [PT]
  exact wpAnyH_cast (by kernel_rfl) (J1_4_9 s11 A11 n11 c11 s12 A12 n12 c12 v16 HX16 HZ16_0 HR16hr12)
  refine .cons rfl (fun K hK => ?_) .nil
  go_simp
  have HB17 := hJ ((Below.refl v.heap.size v).alloc (Nat.le_refl _) (.cells #[.bool false, .slice none 0 0, .bool false, .slice none 0 0] 41))
  have HP17 := hJ (BX.lit v 41 #[.bool false, .slice none 0 0, .bool false, .slice none 0 0])
  obtain ⟨v17, hV⟩ := nmz (World.alloc v (.cells #[.bool false, .slice none 0 0, .bool false, .slice none 0 0] 41))
  obtain ⟨g1_14, hg⟩ := nmz (v.heap.size)
  rw [hV] at HB17 HP17 ⊢
  rw [hg] at HP17 ⊢
  have HG17 := hJ (show x1.heap.size ≤ g1_14 by rw [← hg]; exact HXj.out.size)
  clear hV hg
  have HX17 := hJ (bt HXj.out HB17.out)
  have HZ17_0 := hJ (RNo.new HZ4hr11j.out HB17.out)
  clear hHeld
  refine hK.out _ _ (HS2.out _ HX17.out) (fun hHeld => ?_)
  clear hK K
  try simp only [PT]
  exact wpAnyH_cast (by kernel_rfl) (J1_4_14 s11 A11 n11 c11 g1_14 v17 HX17 HZ17_0 HP17 HG17)
 have J1_14 : ∀ (g1_14 : Nat) (v : World), Hid (Below x1.heap.size x1 v) → Hid (BX 41 v g1_14 #[.bool false, .slice none 0 0, .bool false, .slice none 0 0]) → Hid (x1.heap.size ≤ g1_14) → F 8 (Array.setIfInBounds L0 14 true) (Act.put a0 (some 6) (.pointer (some ⟨g1_14, 0, none⟩))) v := by
  intro g1_14 v HXj HPg1_14j HGg1_14j
  subst hF ha0 hL0
  simp only [PT] at J1_4_14 ⊢
  have hHeld := HS2.out _ HXj.out
  refine wpAnyH_ready (rs := [4]) (by kernel_rfl) (by simp) ?_
  refine .cons rfl (fun K hK => ?_) .nil
  go_simp
  go_at_call 18
  refine (mul_any p s s0 t1 A0 B1 n0 c0 m1 d1 v (RNo.new HP0w1.out HXj.out) (RNo.new HP3w1.out HXj.out) (Nat.le_trans (B2.rlen (RNo.new HP0w1.out HXj.out) HA.out.2.1) (by have := HK.out; omega)) (Nat.le_trans (B2.rlen (RNo.new HP3w1.out HXj.out) HB.out.2.2) (by have := HK.out; omega))).mono ?_
  rw [HX.out]
  rintro e v18 ⟨s11, A11, n11, c11, rfl, hr11, hb⟩
  have HB18 := hJ hb
  have HR18hr11 := hJ hr11
  clear hb hr11
  go_wp2_with fail
  have HX18 := hJ (bt HXj.out HB18.out)
  have HP18g1_14 := hJ (BX.new HPg1_14j.out HB18.out)
  clear hHeld
  refine hK.out _ _ (HS2.out _ HX18.out) (fun hHeld => ?_)
  clear hK K
  try simp only [PT]
  exact wpAnyH_cast (by kernel_rfl) (J1_4_14 s11 A11 n11 c11 g1_14 v18 HX18 HR18hr11 HP18g1_14 HGg1_14j)
 subst hF ha0 hL0
 simp only [PT] at J1_4 J1_14
 refine wpAnyH_ready (rs := [4, 14]) (by kernel_rfl) (by simp) ?_
 refine .cons rfl (fun K hK => ?_) ?_
 go_simp
 go_at_call 18
 refine (mul_any p s s0 t1 A0 B1 n0 c0 m1 d1 v2 (RNo.new HP0w1.out HX2.out) (RNo.new HP3w1.out HX2.out) (Nat.le_trans (B2.rlen (RNo.new HP0w1.out HX2.out) HA.out.2.1) (by have := HK.out; omega)) (Nat.le_trans (B2.rlen (RNo.new HP3w1.out HX2.out) HB.out.2.2) (by have := HK.out; omega))).mono ?_
 rw [HX.out]
 rintro e v19 ⟨s11, A11, n11, c11, rfl, hr11, hb⟩
 have HB19 := hJ hb
 have HR19hr11 := hJ hr11
 clear hb hr11
 go_wp2_with fail
 have HX19 := hJ (bt HX2.out HB19.out)
 clear hHeld
 refine hK.out _ _ (HS2.out _ HX19.out) (fun hHeld => ?_)
 clear hK K
 try simp only [PT]
 exact wpAnyH_cast (by kernel_rfl) (J1_4 s11 A11 n11 c11 v19 HX19 HR19hr11)
 refine .cons rfl (fun K hK => ?_) .nil
 go_simp
 have HB20 := hJ ((Below.refl v2.heap.size v2).alloc (Nat.le_refl _) (.cells #[.bool false, .slice none 0 0, .bool false, .slice none 0 0] 41))
 have HP20 := hJ (BX.lit v2 41 #[.bool false, .slice none 0 0, .bool false, .slice none 0 0])
 obtain ⟨v20, hV⟩ := nmz (World.alloc v2 (.cells #[.bool false, .slice none 0 0, .bool false, .slice none 0 0] 41))
 obtain ⟨g1_14, hg⟩ := nmz (v2.heap.size)
 rw [hV] at HB20 HP20 ⊢
 rw [hg] at HP20 ⊢
 have HG20 := hJ (show x1.heap.size ≤ g1_14 by rw [← hg]; exact HX2.out.size)
 clear hV hg
 have HX20 := hJ (bt HX2.out HB20.out)
 clear hHeld
 refine hK.out _ _ (HS2.out _ HX20.out) (fun hHeld => ?_)
 clear hK K
 try simp only [PT]
 exact wpAnyH_cast (by kernel_rfl) (J1_14 g1_14 v20 HX20 HP20 HG20)
end Go.Proofs.YtbhnaffbgggabaaGreat
