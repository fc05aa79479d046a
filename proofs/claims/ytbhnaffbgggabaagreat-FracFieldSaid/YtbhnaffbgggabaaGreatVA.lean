/- The walk of the law FracField. -/
import Derived.Test.YtbhnaffbgggabaaGreatAD
import Derived.Test.YtbhnaffbgggabaaGreatAG
import Derived.Test.YtbhnaffbgggabaaGreatVF
import Derived.Laws.BytesArg
namespace Go.Proofs.YtbhnaffbgggabaaGreat
open Go.RowKit
attribute [local go_sem ↓] Go.wp_at_zero Go.wp_at_succ
set_option linter.unusedVariables false
set_option linter.unusedSimpArgs false
theorem fe0 (p11 q11 p13 q13 p15 q15 : Int) : (p11 * q13 + p13 * q11) * (q13 * q11) = (p13 * q11 + p11 * q13) * (q11 * q13) := by grind
theorem fe1 (p11 q11 p13 q13 p15 q15 : Int) : (p11 * p13) * (q13 * q11) = (p13 * p11) * (q11 * q13) := by grind
theorem fe2 (p11 q11 p13 q13 p15 q15 : Int) : ((p11 * q13 + p13 * q11) * q13 + (-p13) * (q11 * q13)) * q11 = p11 * ((q11 * q13) * q13) := by grind
theorem fe3 (p11 q11 p13 q13 p15 q15 : Int) : ((p11 * q13 + p13 * q11) * q15 + p15 * (q11 * q13)) * (q11 * (q13 * q15)) = (p11 * (q13 * q15) + (p13 * q15 + p15 * q13) * q11) * ((q11 * q13) * q15) := by grind
theorem fe4 (p11 q11 p13 q13 p15 q15 : Int) : ((p11 * q13 + p13 * q11) * p15) * ((q11 * q15) * (q13 * q15)) = ((p11 * p15) * (q13 * q15) + (p13 * p15) * (q11 * q15)) * ((q11 * q13) * q15) := by grind
theorem fe5 (p11 q11 p13 q13 p15 q15 : Int) : ((p11 * p13) * p15) * (q11 * (q13 * q15)) = (p11 * (p13 * p15)) * ((q11 * q13) * q15) := by grind
theorem fe6 (p11 q11 p13 q13 p15 q15 : Int) : ((p11 * p13) * q13) * q11 = p11 * ((q11 * q13) * p13) := by grind
theorem fe7 (p11 q11 p13 q13 p15 q15 : Int) : ((p11 * q13 + p13 * q11) * q15 + p15 * (q11 * q13)) * (q11 * (q13 * q15)) = (p11 * (q13 * q15) + (p13 * q15 + p15 * q13) * q11) * ((q11 * q13) * q15) := by grind
theorem fe8 (p11 q11 p13 q13 p15 q15 : Int) : ((p11 * q13 + p13 * q11) * p15) * ((q11 * q15) * (q13 * q15)) = ((p11 * p15) * (q13 * q15) + (p13 * p15) * (q11 * q15)) * ((q11 * q13) * q15) := by grind
theorem fe9 (p11 q11 p13 q13 p15 q15 : Int) : ((p11 * p13) * p15) * (q11 * (q13 * q15)) = (p11 * (p13 * p15)) * ((q11 * q13) * q15) := by grind
set_option maxRecDepth 100000 in
set_option maxHeartbeats 6400000 in
theorem fracField_walk (A : Option Addr) (ln c : Nat) (xs : List Int) (w : World) (hg : Got w (.slice A ln c) xs) :
  Calls Tryz.prog 7 #[.slice A ln c] w fun e w' => e = .returned (.bool true) ∧ Below w.heap.size w w' := by
 have HG := hJ hg
 clear hg
 go_enter Tryz.func7, Tryz.ntmps7
 go_wp2_with fail
 refine (r4frac_any A ln c xs 0 w HG.out (by decide) (by decide)).mono ?_
 rintro e w1 ⟨p11, q11, s11, A11, n11, c11, t11, B11, m11, d11, rfl, hr11, hs11, hf11, hb⟩
 have HB1 := hJ hb
 have HR1hr11 := hJ hr11
 have HR1hs11 := hJ hs11
 clear hb hr11 hs11
 have HFR11 := hJ hf11
 clear hf11
 go_wp2_with fail
 refine (l4of_any p11 q11 s11 A11 n11 c11 t11 B11 m11 d11 w1 HR1hr11.out HR1hs11.out HFR11.out.1).mono ?_
 rintro e w2 ⟨s12, A12, n12, c12, t12, B12, m12, d12, rfl, hr12, hb⟩
 have HB2 := hJ hb
 have HR2hr12 := hJ hr12
 clear hb hr12
 obtain ⟨x3, hx3⟩ := nmz (w2.alloc (.cells #[.bool s12, .slice A12 n12 c12, .bool t12, .slice B12 m12 d12] 35))
 have HB3 := hJ (show Below w2.heap.size w2 x3 by rw [← hx3]; exact ((Below.refl _ _).alloc (Nat.le_refl _) _))
 have HQ3x0 := hJ (show BX 35 x3 w2.heap.size #[.bool s12, .slice A12 n12 c12, .bool t12, .slice B12 m12 d12] by rw [← hx3]; exact (BX.at rfl))
 have HG3x0 := hJ (show w2.heap.size ≤ w2.heap.size by omega)
 have HL3x0 := hJ (show w2.heap.size < x3.heap.size from HQ3x0.out.lt)
 have HC0_3 := hJ (bt (bt HB1.out HB2.out) HB3.out)
 have HGw3 := hJ (Got.new HG.out HC0_3.out)
 go_wp2_with fail
 clear hx3
 refine (r4frac_any A ln c xs 4 x3 HGw3.out (by decide) (by decide)).mono ?_
 rintro e w4 ⟨p13, q13, s13, A13, n13, c13, t13, B13, m13, d13, rfl, hr13, hs13, hf13, hb⟩
 have HB4 := hJ hb
 have HR4hr13 := hJ hr13
 have HR4hs13 := hJ hs13
 clear hb hr13 hs13
 have HFR13 := hJ hf13
 clear hf13
 go_wp2_with fail
 refine (l4of_any p13 q13 s13 A13 n13 c13 t13 B13 m13 d13 w4 HR4hr13.out HR4hs13.out HFR13.out.1).mono ?_
 rintro e w5 ⟨s14, A14, n14, c14, t14, B14, m14, d14, rfl, hr14, hb⟩
 have HB5 := hJ hb
 have HR5hr14 := hJ hr14
 clear hb hr14
 obtain ⟨x6, hx6⟩ := nmz (w5.alloc (.cells #[.bool s14, .slice A14 n14 c14, .bool t14, .slice B14 m14 d14] 35))
 have HB6 := hJ (show Below w5.heap.size w5 x6 by rw [← hx6]; exact ((Below.refl _ _).alloc (Nat.le_refl _) _))
 have HQ6x0 := hJ (show BX 35 x6 w5.heap.size #[.bool s14, .slice A14 n14 c14, .bool t14, .slice B14 m14 d14] by rw [← hx6]; exact (BX.at rfl))
 have HG6x0 := hJ (show w5.heap.size ≤ w5.heap.size by omega)
 have HL6x0 := hJ (show w5.heap.size < x6.heap.size from HQ6x0.out.lt)
 have HC3_6 := hJ (bt (bt HB4.out HB5.out) HB6.out)
 have HGw6 := hJ (Got.new HGw3.out HC3_6.out)
 go_wp2_with fail
 clear hx6
 refine (r4frac_any A ln c xs 8 x6 HGw6.out (by decide) (by decide)).mono ?_
 rintro e w7 ⟨p15, q15, s15, A15, n15, c15, t15, B15, m15, d15, rfl, hr15, hs15, hf15, hb⟩
 have HB7 := hJ hb
 have HR7hr15 := hJ hr15
 have HR7hs15 := hJ hs15
 clear hb hr15 hs15
 have HFR15 := hJ hf15
 clear hf15
 go_wp2_with fail
 refine (l4of_any p15 q15 s15 A15 n15 c15 t15 B15 m15 d15 w7 HR7hr15.out HR7hs15.out HFR15.out.1).mono ?_
 rintro e w8 ⟨s16, A16, n16, c16, t16, B16, m16, d16, rfl, hr16, hb⟩
 have HB8 := hJ hb
 have HR8hr16 := hJ hr16
 clear hb hr16
 obtain ⟨x9, hx9⟩ := nmz (w8.alloc (.cells #[.bool s16, .slice A16 n16 c16, .bool t16, .slice B16 m16 d16] 35))
 have HB9 := hJ (show Below w8.heap.size w8 x9 by rw [← hx9]; exact ((Below.refl _ _).alloc (Nat.le_refl _) _))
 have HQ9x0 := hJ (show BX 35 x9 w8.heap.size #[.bool s16, .slice A16 n16 c16, .bool t16, .slice B16 m16 d16] by rw [← hx9]; exact (BX.at rfl))
 have HG9x0 := hJ (show w8.heap.size ≤ w8.heap.size by omega)
 have HL9x0 := hJ (show w8.heap.size < x9.heap.size from HQ9x0.out.lt)
 have HC3_9 := hJ (bt (bt (bt HC3_6.out HB7.out) HB8.out) HB9.out)
 have HQ3x0w9 := hJ (BX.new HQ3x0.out HC3_9.out)
 obtain ⟨cl10, cl11, cl12, cl13⟩ := HQ3x0w9.out.c4 0 1 2 3 rfl rfl rfl rfl
 have HC6_9 := hJ (bt (bt HB7.out HB8.out) HB9.out)
 have HQ6x0w9 := hJ (BX.new HQ6x0.out HC6_9.out)
 obtain ⟨cl14, cl15, cl16, cl17⟩ := HQ6x0w9.out.c4 0 1 2 3 rfl rfl rfl rfl
 have hv := vl_add (vl_self HFR11.out.1.1 HFR11.out.2.1 HFR11.out.2.2) (vl_self HFR13.out.1.1 HFR13.out.2.1 HFR13.out.2.2) (by decide)
 obtain ⟨P17, hP⟩ := nmz (adP p11 q11 p13 q13)
 obtain ⟨Q17, hQ⟩ := nmz (adQ p11 q11 p13 q13)
 rw [hP, hQ] at hv
 have HCD17 := hJ hv.1
 have HVL17 := hJ (show Vl 4003 P17 Q17 (p11 * q13 + p13 * q11) (q11 * q13) from hv.2)
 have HNP17 := hJ hP
 have HNQ17 := hJ hQ
 clear hv hP hQ
 have HC2_9 := hJ (bt (bt (bt (bt (bt (bt HB3.out HB4.out) HB5.out) HB6.out) HB7.out) HB8.out) HB9.out)
 have HR2hr12w9 := hJ (PF.new HR2hr12.out HC2_9.out)
 have HC5_9 := hJ (bt (bt (bt HB6.out HB7.out) HB8.out) HB9.out)
 have HR5hr14w9 := hJ (PF.new HR5hr14.out HC5_9.out)
 go_wp2_with fail
 clear hx9 cl10 cl11 cl12 cl13 cl14 cl15 cl16 cl17
 refine (fadd_any p11 q11 p13 q13 s12 t12 s14 t14 A12 B12 A14 B14 n12 c12 m12 d12 n14 c14 m14 d14 x9 HR2hr12w9.out HR5hr14w9.out HFR11.out.1.1.1 HFR13.out.1.1.1 HFR11.out.1.2.1 HFR11.out.1.2.2 HFR13.out.1.2.1 HFR13.out.1.2.2).mono ?_
 rw [HNP17.out, HNQ17.out, HCD17.out]
 rintro e w18 ⟨s18, A18, n18, c18, t18, B18, m18, d18, rfl, hr18, hb⟩
 have HB18 := hJ hb
 have HR18hr18 := hJ hr18
 clear hb hr18
 obtain ⟨x19, hx19⟩ := nmz (w18.alloc (.cells #[.bool s18, .slice A18 n18 c18, .bool t18, .slice B18 m18 d18] 35))
 have HB19 := hJ (show Below w18.heap.size w18 x19 by rw [← hx19]; exact ((Below.refl _ _).alloc (Nat.le_refl _) _))
 have HQ19x0 := hJ (show BX 35 x19 w18.heap.size #[.bool s18, .slice A18 n18 c18, .bool t18, .slice B18 m18 d18] by rw [← hx19]; exact (BX.at rfl))
 have HG19x0 := hJ (show w18.heap.size ≤ w18.heap.size by omega)
 have HL19x0 := hJ (show w18.heap.size < x19.heap.size from HQ19x0.out.lt)
 have HC9_11 := hJ (bt HB18.out HB19.out)
 have HQ6x0w11 := hJ (BX.new HQ6x0w9.out HC9_11.out)
 obtain ⟨cl20, cl21, cl22, cl23⟩ := HQ6x0w11.out.c4 0 1 2 3 rfl rfl rfl rfl
 have HQ3x0w11 := hJ (BX.new HQ3x0w9.out HC9_11.out)
 obtain ⟨cl24, cl25, cl26, cl27⟩ := HQ3x0w11.out.c4 0 1 2 3 rfl rfl rfl rfl
 have hv := vl_add (vl_self HFR13.out.1.1 HFR13.out.2.1 HFR13.out.2.2) (vl_self HFR11.out.1.1 HFR11.out.2.1 HFR11.out.2.2) (by decide)
 obtain ⟨P19, hP⟩ := nmz (adP p13 q13 p11 q11)
 obtain ⟨Q19, hQ⟩ := nmz (adQ p13 q13 p11 q11)
 rw [hP, hQ] at hv
 have HCD19 := hJ hv.1
 have HVL19 := hJ (show Vl 4003 P19 Q19 (p13 * q11 + p11 * q13) (q13 * q11) from hv.2)
 have HNP19 := hJ hP
 have HNQ19 := hJ hQ
 clear hv hP hQ
 have HR5hr14w11 := hJ (PF.new HR5hr14w9.out HC9_11.out)
 have HR2hr12w11 := hJ (PF.new HR2hr12w9.out HC9_11.out)
 go_wp2_with fail
 clear hx19 cl20 cl21 cl22 cl23 cl24 cl25 cl26 cl27
 refine (fadd_any p13 q13 p11 q11 s14 t14 s12 t12 A14 B14 A12 B12 n14 c14 m14 d14 n12 c12 m12 d12 x19 HR5hr14w11.out HR2hr12w11.out HFR13.out.1.1.1 HFR11.out.1.1.1 HFR13.out.1.2.1 HFR13.out.1.2.2 HFR11.out.1.2.1 HFR11.out.1.2.2).mono ?_
 rw [HNP19.out, HNQ19.out, HCD19.out]
 rintro e w28 ⟨s20, A20, n20, c20, t20, B20, m20, d20, rfl, hr20, hb⟩
 have HB28 := hJ hb
 have HR28hr20 := hJ hr20
 clear hb hr20
 obtain ⟨x29, hx29⟩ := nmz (w28.alloc (.cells #[.bool s20, .slice A20 n20 c20, .bool t20, .slice B20 m20 d20] 35))
 have HB29 := hJ (show Below w28.heap.size w28 x29 by rw [← hx29]; exact ((Below.refl _ _).alloc (Nat.le_refl _) _))
 have HQ29x0 := hJ (show BX 35 x29 w28.heap.size #[.bool s20, .slice A20 n20 c20, .bool t20, .slice B20 m20 d20] by rw [← hx29]; exact (BX.at rfl))
 have HG29x0 := hJ (show w28.heap.size ≤ w28.heap.size by omega)
 have HL29x0 := hJ (show w28.heap.size < x29.heap.size from HQ29x0.out.lt)
 have HC11_13 := hJ (bt HB28.out HB29.out)
 have HQ3x0w13 := hJ (BX.new HQ3x0w11.out HC11_13.out)
 obtain ⟨cl30, cl31, cl32, cl33⟩ := HQ3x0w13.out.c4 0 1 2 3 rfl rfl rfl rfl
 have HQ6x0w13 := hJ (BX.new HQ6x0w11.out HC11_13.out)
 obtain ⟨cl34, cl35, cl36, cl37⟩ := HQ6x0w13.out.c4 0 1 2 3 rfl rfl rfl rfl
 have hv := vl_mul (vl_self HFR11.out.1.1 HFR11.out.2.1 HFR11.out.2.2) (vl_self HFR13.out.1.1 HFR13.out.2.1 HFR13.out.2.2) (by decide)
 obtain ⟨P21, hP⟩ := nmz (muP p11 q11 p13 q13)
 obtain ⟨Q21, hQ⟩ := nmz (muQ p11 q11 p13 q13)
 rw [hP, hQ] at hv
 have HCD21 := hJ hv.1
 have HVL21 := hJ (show Vl 4002 P21 Q21 (p11 * p13) (q11 * q13) from hv.2)
 have HNP21 := hJ hP
 have HNQ21 := hJ hQ
 clear hv hP hQ
 have HR2hr12w13 := hJ (PF.new HR2hr12w11.out HC11_13.out)
 have HR5hr14w13 := hJ (PF.new HR5hr14w11.out HC11_13.out)
 go_wp2_with fail
 clear hx29 cl30 cl31 cl32 cl33 cl34 cl35 cl36 cl37
 refine (fmul_any p11 q11 p13 q13 s12 t12 s14 t14 A12 B12 A14 B14 n12 c12 m12 d12 n14 c14 m14 d14 x29 HR2hr12w13.out HR5hr14w13.out HFR11.out.1.1.1 HFR13.out.1.1.1 HFR11.out.1.2.1 HFR11.out.1.2.2 HFR13.out.1.2.1 HFR13.out.1.2.2).mono ?_
 rw [HNP21.out, HNQ21.out, HCD21.out]
 rintro e w38 ⟨s22, A22, n22, c22, t22, B22, m22, d22, rfl, hr22, hb⟩
 have HB38 := hJ hb
 have HR38hr22 := hJ hr22
 clear hb hr22
 obtain ⟨x39, hx39⟩ := nmz (w38.alloc (.cells #[.bool s22, .slice A22 n22 c22, .bool t22, .slice B22 m22 d22] 35))
 have HB39 := hJ (show Below w38.heap.size w38 x39 by rw [← hx39]; exact ((Below.refl _ _).alloc (Nat.le_refl _) _))
 have HQ39x0 := hJ (show BX 35 x39 w38.heap.size #[.bool s22, .slice A22 n22 c22, .bool t22, .slice B22 m22 d22] by rw [← hx39]; exact (BX.at rfl))
 have HG39x0 := hJ (show w38.heap.size ≤ w38.heap.size by omega)
 have HL39x0 := hJ (show w38.heap.size < x39.heap.size from HQ39x0.out.lt)
 have HC13_15 := hJ (bt HB38.out HB39.out)
 have HQ6x0w15 := hJ (BX.new HQ6x0w13.out HC13_15.out)
 obtain ⟨cl40, cl41, cl42, cl43⟩ := HQ6x0w15.out.c4 0 1 2 3 rfl rfl rfl rfl
 have HQ3x0w15 := hJ (BX.new HQ3x0w13.out HC13_15.out)
 obtain ⟨cl44, cl45, cl46, cl47⟩ := HQ3x0w15.out.c4 0 1 2 3 rfl rfl rfl rfl
 have hv := vl_mul (vl_self HFR13.out.1.1 HFR13.out.2.1 HFR13.out.2.2) (vl_self HFR11.out.1.1 HFR11.out.2.1 HFR11.out.2.2) (by decide)
 obtain ⟨P23, hP⟩ := nmz (muP p13 q13 p11 q11)
 obtain ⟨Q23, hQ⟩ := nmz (muQ p13 q13 p11 q11)
 rw [hP, hQ] at hv
 have HCD23 := hJ hv.1
 have HVL23 := hJ (show Vl 4002 P23 Q23 (p13 * p11) (q13 * q11) from hv.2)
 have HNP23 := hJ hP
 have HNQ23 := hJ hQ
 clear hv hP hQ
 have HR5hr14w15 := hJ (PF.new HR5hr14w13.out HC13_15.out)
 have HR2hr12w15 := hJ (PF.new HR2hr12w13.out HC13_15.out)
 go_wp2_with fail
 clear hx39 cl40 cl41 cl42 cl43 cl44 cl45 cl46 cl47
 refine (fmul_any p13 q13 p11 q11 s14 t14 s12 t12 A14 B14 A12 B12 n14 c14 m14 d14 n12 c12 m12 d12 x39 HR5hr14w15.out HR2hr12w15.out HFR13.out.1.1.1 HFR11.out.1.1.1 HFR13.out.1.2.1 HFR13.out.1.2.2 HFR11.out.1.2.1 HFR11.out.1.2.2).mono ?_
 rw [HNP23.out, HNQ23.out, HCD23.out]
 rintro e w48 ⟨s24, A24, n24, c24, t24, B24, m24, d24, rfl, hr24, hb⟩
 have HB48 := hJ hb
 have HR48hr24 := hJ hr24
 clear hb hr24
 obtain ⟨x49, hx49⟩ := nmz (w48.alloc (.cells #[.bool s24, .slice A24 n24 c24, .bool t24, .slice B24 m24 d24] 35))
 have HB49 := hJ (show Below w48.heap.size w48 x49 by rw [← hx49]; exact ((Below.refl _ _).alloc (Nat.le_refl _) _))
 have HQ49x0 := hJ (show BX 35 x49 w48.heap.size #[.bool s24, .slice A24 n24 c24, .bool t24, .slice B24 m24 d24] by rw [← hx49]; exact (BX.at rfl))
 have HG49x0 := hJ (show w48.heap.size ≤ w48.heap.size by omega)
 have HL49x0 := hJ (show w48.heap.size < x49.heap.size from HQ49x0.out.lt)
 have HC11_17 := hJ (bt (bt (bt (bt HC11_13.out HB38.out) HB39.out) HB48.out) HB49.out)
 have HQ19x0w17 := hJ (BX.new HQ19x0.out HC11_17.out)
 obtain ⟨cl50, cl51, cl52, cl53⟩ := HQ19x0w17.out.c4 0 1 2 3 rfl rfl rfl rfl
 have HC13_17 := hJ (bt (bt HC13_15.out HB48.out) HB49.out)
 have HQ29x0w17 := hJ (BX.new HQ29x0.out HC13_17.out)
 obtain ⟨cl54, cl55, cl56, cl57⟩ := HQ29x0w17.out.c4 0 1 2 3 rfl rfl rfl rfl
 have HEQ25 := hJ (vl_eq HVL17.out HVL19.out (fe0 p11 q11 p13 q13 p15 q15))
 have HC10_17 := hJ (bt (bt (bt (bt (bt (bt HB19.out HB28.out) HB29.out) HB38.out) HB39.out) HB48.out) HB49.out)
 have HR18hr18w17 := hJ (PF.new HR18hr18.out HC10_17.out)
 have HC12_17 := hJ (bt (bt (bt (bt HB29.out HB38.out) HB39.out) HB48.out) HB49.out)
 have HR28hr20w17 := hJ (PF.new HR28hr20.out HC12_17.out)
 go_wp2_with fail
 clear hx49 cl50 cl51 cl52 cl53 cl54 cl55 cl56 cl57
 refine (l4equal_any P17 Q17 P19 Q19 s18 t18 s20 t20 A18 B18 A20 B20 n18 c18 m18 d18 n20 c20 m20 d20 x49 HR18hr18w17.out HR28hr20w17.out (vl_fr HVL17.out (by decide)) (vl_fr HVL19.out (by decide))).mono ?_
 rw [HEQ25.out]
 rintro e w58 ⟨rfl, hb⟩
 have HB58 := hJ hb
 clear hb
 have HC15_18 := hJ (bt (bt HB48.out HB49.out) HB58.out)
 have HQ39x0w18 := hJ (BX.new HQ39x0.out HC15_18.out)
 obtain ⟨cl59, cl60, cl61, cl62⟩ := HQ39x0w18.out.c4 0 1 2 3 rfl rfl rfl rfl
 have HQ49x0w18 := hJ (BX.new HQ49x0.out HB58.out)
 obtain ⟨cl63, cl64, cl65, cl66⟩ := HQ49x0w18.out.c4 0 1 2 3 rfl rfl rfl rfl
 have HEQ26 := hJ (vl_eq HVL21.out HVL23.out (fe1 p11 q11 p13 q13 p15 q15))
 have HC14_18 := hJ (bt (bt (bt HB39.out HB48.out) HB49.out) HB58.out)
 have HR38hr22w18 := hJ (PF.new HR38hr22.out HC14_18.out)
 have HC16_18 := hJ (bt HB49.out HB58.out)
 have HR48hr24w18 := hJ (PF.new HR48hr24.out HC16_18.out)
 go_wp2_with fail
 clear cl59 cl60 cl61 cl62 cl63 cl64 cl65 cl66
 refine (l4equal_any P21 Q21 P23 Q23 s22 t22 s24 t24 A22 B22 A24 B24 n22 c22 m22 d22 n24 c24 m24 d24 w58 HR38hr22w18.out HR48hr24w18.out (vl_fr HVL21.out (by decide)) (vl_fr HVL23.out (by decide))).mono ?_
 rw [HEQ26.out]
 rintro e w67 ⟨rfl, hb⟩
 have HB67 := hJ hb
 clear hb
 have HC17_19 := hJ (bt HB58.out HB67.out)
 have HQ19x0w19 := hJ (BX.new HQ19x0w17.out HC17_19.out)
 obtain ⟨cl68, cl69, cl70, cl71⟩ := HQ19x0w19.out.c4 0 1 2 3 rfl rfl rfl rfl
 have HC15_19 := hJ (bt HC15_18.out HB67.out)
 have HQ6x0w19 := hJ (BX.new HQ6x0w15.out HC15_19.out)
 obtain ⟨cl72, cl73, cl74, cl75⟩ := HQ6x0w19.out.c4 0 1 2 3 rfl rfl rfl rfl
 have hv := vl_add HVL17.out (vl_neg (vl_self HFR13.out.1.1 HFR13.out.2.1 HFR13.out.2.2)) (by decide)
 obtain ⟨P27, hP⟩ := nmz (adP P17 Q17 (-p13) q13)
 obtain ⟨Q27, hQ⟩ := nmz (adQ P17 Q17 (-p13) q13)
 rw [hP, hQ] at hv
 have HCD27 := hJ hv.1
 have HVL27 := hJ (show Vl 6005 P27 Q27 ((p11 * q13 + p13 * q11) * q13 + (-p13) * (q11 * q13)) ((q11 * q13) * q13) from hv.2)
 have HNP27 := hJ hP
 have HNQ27 := hJ hQ
 clear hv hP hQ
 have HR18hr18w19 := hJ (PF.new HR18hr18w17.out HC17_19.out)
 have HR5hr14w19 := hJ (PF.new HR5hr14w15.out HC15_19.out)
 go_wp2_with fail
 clear cl68 cl69 cl70 cl71 cl72 cl73 cl74 cl75
 refine (fsub_any P17 Q17 p13 q13 s18 t18 s14 t14 A18 B18 A14 B14 n18 c18 m18 d18 n14 c14 m14 d14 w67 HR18hr18w19.out HR5hr14w19.out (vl_fr HVL17.out (by decide)).1.1 HFR13.out.1.1.1 (vl_fr HVL17.out (by decide)).2.1 (vl_fr HVL17.out (by decide)).2.2 HFR13.out.1.2.1 HFR13.out.1.2.2).mono ?_
 rw [HNP27.out, HNQ27.out, HCD27.out]
 rintro e w76 ⟨s28, A28, n28, c28, t28, B28, m28, d28, rfl, hr28, hb⟩
 have HB76 := hJ hb
 have HR76hr28 := hJ hr28
 clear hb hr28
 obtain ⟨x77, hx77⟩ := nmz (w76.alloc (.cells #[.bool s28, .slice A28 n28 c28, .bool t28, .slice B28 m28 d28] 35))
 have HB77 := hJ (show Below w76.heap.size w76 x77 by rw [← hx77]; exact ((Below.refl _ _).alloc (Nat.le_refl _) _))
 have HQ77x0 := hJ (show BX 35 x77 w76.heap.size #[.bool s28, .slice A28 n28 c28, .bool t28, .slice B28 m28 d28] by rw [← hx77]; exact (BX.at rfl))
 have HG77x0 := hJ (show w76.heap.size ≤ w76.heap.size by omega)
 have HL77x0 := hJ (show w76.heap.size < x77.heap.size from HQ77x0.out.lt)
 obtain ⟨cl78, cl79, cl80, cl81⟩ := HQ77x0.out.c4 0 1 2 3 rfl rfl rfl rfl
 have HC15_21 := hJ (bt (bt HC15_19.out HB76.out) HB77.out)
 have HQ3x0w21 := hJ (BX.new HQ3x0w15.out HC15_21.out)
 obtain ⟨cl82, cl83, cl84, cl85⟩ := HQ3x0w21.out.c4 0 1 2 3 rfl rfl rfl rfl
 have HEQ29 := hJ (vl_eq HVL27.out (vl_self HFR11.out.1.1 HFR11.out.2.1 HFR11.out.2.2) (fe2 p11 q11 p13 q13 p15 q15))
 have HR76hr28w21 := hJ (PF.new HR76hr28.out HB77.out)
 have HR2hr12w21 := hJ (PF.new HR2hr12w15.out HC15_21.out)
 go_wp2_with fail
 clear hx77 cl78 cl79 cl80 cl81 cl82 cl83 cl84 cl85
 refine (l4equal_any P27 Q27 p11 q11 s28 t28 s12 t12 A28 B28 A12 B12 n28 c28 m28 d28 n12 c12 m12 d12 x77 HR76hr28w21.out HR2hr12w21.out (vl_fr HVL27.out (by decide)) HFR11.out.1).mono ?_
 rw [HEQ29.out]
 rintro e w86 ⟨rfl, hb⟩
 have HB86 := hJ hb
 clear hb
 by_cases h0 : p13 = 0
 ·have HU := hJ (show cmpI p13 0 = 0 by rw [h0]; rfl)
  clear h0
  have HC19_22 := hJ (bt (bt HB76.out HB77.out) HB86.out)
  have HQ6x0w22 := hJ (BX.new HQ6x0w19.out HC19_22.out)
  obtain ⟨cl87, cl88, cl89, cl90⟩ := HQ6x0w22.out.c4 0 1 2 3 rfl rfl rfl rfl
  have HR5hr14w22 := hJ (PF.new HR5hr14w19.out HC19_22.out)
  go_wp2_with fail
  clear cl87 cl88 cl89 cl90
  refine (fsign_any p13 q13 s14 t14 A14 B14 n14 c14 m14 d14 w86 HR5hr14w22.out HFR13.out.1.2.1).mono ?_
  rw [HU.out]
  rintro e w91 ⟨rfl, hb⟩
  have HB91 := hJ hb
  clear hb
  have HC19_23 := hJ (bt HC19_22.out HB91.out)
  have HQ19x0w23 := hJ (BX.new HQ19x0w19.out HC19_23.out)
  obtain ⟨cl92, cl93, cl94, cl95⟩ := HQ19x0w23.out.c4 0 1 2 3 rfl rfl rfl rfl
  have HC9_23 := hJ (bt (bt (bt (bt (bt (bt (bt (bt (bt (bt (bt (bt HC9_11.out HB28.out) HB29.out) HB38.out) HB39.out) HB48.out) HB49.out) HB58.out) HB67.out) HB76.out) HB77.out) HB86.out) HB91.out)
  have HQ9x0w23 := hJ (BX.new HQ9x0.out HC9_23.out)
  obtain ⟨cl96, cl97, cl98, cl99⟩ := HQ9x0w23.out.c4 0 1 2 3 rfl rfl rfl rfl
  have hv := vl_add HVL17.out (vl_self HFR15.out.1.1 HFR15.out.2.1 HFR15.out.2.2) (by decide)
  obtain ⟨P30, hP⟩ := nmz (adP P17 Q17 p15 q15)
  obtain ⟨Q30, hQ⟩ := nmz (adQ P17 Q17 p15 q15)
  rw [hP, hQ] at hv
  have HCD30 := hJ hv.1
  have HVL30 := hJ (show Vl 6005 P30 Q30 ((p11 * q13 + p13 * q11) * q15 + p15 * (q11 * q13)) ((q11 * q13) * q15) from hv.2)
  have HNP30 := hJ hP
  have HNQ30 := hJ hQ
  clear hv hP hQ
  have HR18hr18w23 := hJ (PF.new HR18hr18w19.out HC19_23.out)
  have HC8_23 := hJ (bt (bt (bt (bt (bt (bt (bt (bt (bt (bt (bt (bt (bt (bt HB9.out HB18.out) HB19.out) HB28.out) HB29.out) HB38.out) HB39.out) HB48.out) HB49.out) HB58.out) HB67.out) HB76.out) HB77.out) HB86.out) HB91.out)
  have HR8hr16w23 := hJ (PF.new HR8hr16.out HC8_23.out)
  go_wp2_with fail
  clear cl92 cl93 cl94 cl95 cl96 cl97 cl98 cl99
  refine (fadd_any P17 Q17 p15 q15 s18 t18 s16 t16 A18 B18 A16 B16 n18 c18 m18 d18 n16 c16 m16 d16 w91 HR18hr18w23.out HR8hr16w23.out (vl_fr HVL17.out (by decide)).1.1 HFR15.out.1.1.1 (vl_fr HVL17.out (by decide)).2.1 (vl_fr HVL17.out (by decide)).2.2 HFR15.out.1.2.1 HFR15.out.1.2.2).mono ?_
  rw [HNP30.out, HNQ30.out, HCD30.out]
  rintro e w100 ⟨s31, A31, n31, c31, t31, B31, m31, d31, rfl, hr31, hb⟩
  have HB100 := hJ hb
  have HR100hr31 := hJ hr31
  clear hb hr31
  obtain ⟨x101, hx101⟩ := nmz (w100.alloc (.cells #[.bool s31, .slice A31 n31 c31, .bool t31, .slice B31 m31 d31] 35))
  have HB101 := hJ (show Below w100.heap.size w100 x101 by rw [← hx101]; exact ((Below.refl _ _).alloc (Nat.le_refl _) _))
  have HQ101x0 := hJ (show BX 35 x101 w100.heap.size #[.bool s31, .slice A31 n31 c31, .bool t31, .slice B31 m31 d31] by rw [← hx101]; exact (BX.at rfl))
  have HG101x0 := hJ (show w100.heap.size ≤ w100.heap.size by omega)
  have HL101x0 := hJ (show w100.heap.size < x101.heap.size from HQ101x0.out.lt)
  have HC22_25 := hJ (bt (bt HB91.out HB100.out) HB101.out)
  have HQ6x0w25 := hJ (BX.new HQ6x0w22.out HC22_25.out)
  obtain ⟨cl102, cl103, cl104, cl105⟩ := HQ6x0w25.out.c4 0 1 2 3 rfl rfl rfl rfl
  have HC23_25 := hJ (bt HB100.out HB101.out)
  have HQ9x0w25 := hJ (BX.new HQ9x0w23.out HC23_25.out)
  obtain ⟨cl106, cl107, cl108, cl109⟩ := HQ9x0w25.out.c4 0 1 2 3 rfl rfl rfl rfl
  have hv := vl_add (vl_self HFR13.out.1.1 HFR13.out.2.1 HFR13.out.2.2) (vl_self HFR15.out.1.1 HFR15.out.2.1 HFR15.out.2.2) (by decide)
  obtain ⟨P32, hP⟩ := nmz (adP p13 q13 p15 q15)
  obtain ⟨Q32, hQ⟩ := nmz (adQ p13 q13 p15 q15)
  rw [hP, hQ] at hv
  have HCD32 := hJ hv.1
  have HVL32 := hJ (show Vl 4003 P32 Q32 (p13 * q15 + p15 * q13) (q13 * q15) from hv.2)
  have HNP32 := hJ hP
  have HNQ32 := hJ hQ
  clear hv hP hQ
  have HR5hr14w25 := hJ (PF.new HR5hr14w22.out HC22_25.out)
  have HR8hr16w25 := hJ (PF.new HR8hr16w23.out HC23_25.out)
  go_wp2_with fail
  clear hx101 cl102 cl103 cl104 cl105 cl106 cl107 cl108 cl109
  refine (fadd_any p13 q13 p15 q15 s14 t14 s16 t16 A14 B14 A16 B16 n14 c14 m14 d14 n16 c16 m16 d16 x101 HR5hr14w25.out HR8hr16w25.out HFR13.out.1.1.1 HFR15.out.1.1.1 HFR13.out.1.2.1 HFR13.out.1.2.2 HFR15.out.1.2.1 HFR15.out.1.2.2).mono ?_
  rw [HNP32.out, HNQ32.out, HCD32.out]
  rintro e w110 ⟨s33, A33, n33, c33, t33, B33, m33, d33, rfl, hr33, hb⟩
  have HB110 := hJ hb
  have HR110hr33 := hJ hr33
  clear hb hr33
  obtain ⟨x111, hx111⟩ := nmz (w110.alloc (.cells #[.bool s33, .slice A33 n33 c33, .bool t33, .slice B33 m33 d33] 35))
  have HB111 := hJ (show Below w110.heap.size w110 x111 by rw [← hx111]; exact ((Below.refl _ _).alloc (Nat.le_refl _) _))
  have HQ111x0 := hJ (show BX 35 x111 w110.heap.size #[.bool s33, .slice A33 n33 c33, .bool t33, .slice B33 m33 d33] by rw [← hx111]; exact (BX.at rfl))
  have HG111x0 := hJ (show w110.heap.size ≤ w110.heap.size by omega)
  have HL111x0 := hJ (show w110.heap.size < x111.heap.size from HQ111x0.out.lt)
  have HC21_27 := hJ (bt (bt (bt (bt (bt HB86.out HB91.out) HB100.out) HB101.out) HB110.out) HB111.out)
  have HQ3x0w27 := hJ (BX.new HQ3x0w21.out HC21_27.out)
  obtain ⟨cl112, cl113, cl114, cl115⟩ := HQ3x0w27.out.c4 0 1 2 3 rfl rfl rfl rfl
  obtain ⟨cl116, cl117, cl118, cl119⟩ := HQ111x0.out.c4 0 1 2 3 rfl rfl rfl rfl
  have hv := vl_add (vl_self HFR11.out.1.1 HFR11.out.2.1 HFR11.out.2.2) HVL32.out (by decide)
  obtain ⟨P34, hP⟩ := nmz (adP p11 q11 P32 Q32)
  obtain ⟨Q34, hQ⟩ := nmz (adQ p11 q11 P32 Q32)
  rw [hP, hQ] at hv
  have HCD34 := hJ hv.1
  have HVL34 := hJ (show Vl 6005 P34 Q34 (p11 * (q13 * q15) + (p13 * q15 + p15 * q13) * q11) (q11 * (q13 * q15)) from hv.2)
  have HNP34 := hJ hP
  have HNQ34 := hJ hQ
  clear hv hP hQ
  have HR2hr12w27 := hJ (PF.new HR2hr12w21.out HC21_27.out)
  have HR110hr33w27 := hJ (PF.new HR110hr33.out HB111.out)
  go_wp2_with fail
  clear hx111 cl112 cl113 cl114 cl115 cl116 cl117 cl118 cl119
  refine (fadd_any p11 q11 P32 Q32 s12 t12 s33 t33 A12 B12 A33 B33 n12 c12 m12 d12 n33 c33 m33 d33 x111 HR2hr12w27.out HR110hr33w27.out HFR11.out.1.1.1 (vl_fr HVL32.out (by decide)).1.1 HFR11.out.1.2.1 HFR11.out.1.2.2 (vl_fr HVL32.out (by decide)).2.1 (vl_fr HVL32.out (by decide)).2.2).mono ?_
  rw [HNP34.out, HNQ34.out, HCD34.out]
  rintro e w120 ⟨s35, A35, n35, c35, t35, B35, m35, d35, rfl, hr35, hb⟩
  have HB120 := hJ hb
  have HR120hr35 := hJ hr35
  clear hb hr35
  obtain ⟨x121, hx121⟩ := nmz (w120.alloc (.cells #[.bool s35, .slice A35 n35 c35, .bool t35, .slice B35 m35 d35] 35))
  have HB121 := hJ (show Below w120.heap.size w120 x121 by rw [← hx121]; exact ((Below.refl _ _).alloc (Nat.le_refl _) _))
  have HQ121x0 := hJ (show BX 35 x121 w120.heap.size #[.bool s35, .slice A35 n35 c35, .bool t35, .slice B35 m35 d35] by rw [← hx121]; exact (BX.at rfl))
  have HG121x0 := hJ (show w120.heap.size ≤ w120.heap.size by omega)
  have HL121x0 := hJ (show w120.heap.size < x121.heap.size from HQ121x0.out.lt)
  have HC25_29 := hJ (bt (bt (bt HB110.out HB111.out) HB120.out) HB121.out)
  have HQ101x0w29 := hJ (BX.new HQ101x0.out HC25_29.out)
  obtain ⟨cl122, cl123, cl124, cl125⟩ := HQ101x0w29.out.c4 0 1 2 3 rfl rfl rfl rfl
  obtain ⟨cl126, cl127, cl128, cl129⟩ := HQ121x0.out.c4 0 1 2 3 rfl rfl rfl rfl
  have HEQ36 := hJ (vl_eq HVL30.out HVL34.out (fe3 p11 q11 p13 q13 p15 q15))
  have HC24_29 := hJ (bt (bt (bt (bt HB101.out HB110.out) HB111.out) HB120.out) HB121.out)
  have HR100hr31w29 := hJ (PF.new HR100hr31.out HC24_29.out)
  have HR120hr35w29 := hJ (PF.new HR120hr35.out HB121.out)
  go_wp2_with fail
  clear hx121 cl122 cl123 cl124 cl125 cl126 cl127 cl128 cl129
  refine (l4equal_any P30 Q30 P34 Q34 s31 t31 s35 t35 A31 B31 A35 B35 n31 c31 m31 d31 n35 c35 m35 d35 x121 HR100hr31w29.out HR120hr35w29.out (vl_fr HVL30.out (by decide)) (vl_fr HVL34.out (by decide))).mono ?_
  rw [HEQ36.out]
  rintro e w130 ⟨rfl, hb⟩
  have HB130 := hJ hb
  clear hb
  have HC23_30 := hJ (bt (bt (bt (bt (bt HC23_25.out HB110.out) HB111.out) HB120.out) HB121.out) HB130.out)
  have HQ19x0w30 := hJ (BX.new HQ19x0w23.out HC23_30.out)
  obtain ⟨cl131, cl132, cl133, cl134⟩ := HQ19x0w30.out.c4 0 1 2 3 rfl rfl rfl rfl
  have HC25_30 := hJ (bt HC25_29.out HB130.out)
  have HQ9x0w30 := hJ (BX.new HQ9x0w25.out HC25_30.out)
  obtain ⟨cl135, cl136, cl137, cl138⟩ := HQ9x0w30.out.c4 0 1 2 3 rfl rfl rfl rfl
  have hv := vl_mul HVL17.out (vl_self HFR15.out.1.1 HFR15.out.2.1 HFR15.out.2.2) (by decide)
  obtain ⟨P37, hP⟩ := nmz (muP P17 Q17 p15 q15)
  obtain ⟨Q37, hQ⟩ := nmz (muQ P17 Q17 p15 q15)
  rw [hP, hQ] at hv
  have HCD37 := hJ hv.1
  have HVL37 := hJ (show Vl 6004 P37 Q37 ((p11 * q13 + p13 * q11) * p15) ((q11 * q13) * q15) from hv.2)
  have HNP37 := hJ hP
  have HNQ37 := hJ hQ
  clear hv hP hQ
  have HR18hr18w30 := hJ (PF.new HR18hr18w23.out HC23_30.out)
  have HR8hr16w30 := hJ (PF.new HR8hr16w25.out HC25_30.out)
  go_wp2_with fail
  clear cl131 cl132 cl133 cl134 cl135 cl136 cl137 cl138
  refine (fmul_any P17 Q17 p15 q15 s18 t18 s16 t16 A18 B18 A16 B16 n18 c18 m18 d18 n16 c16 m16 d16 w130 HR18hr18w30.out HR8hr16w30.out (vl_fr HVL17.out (by decide)).1.1 HFR15.out.1.1.1 (vl_fr HVL17.out (by decide)).2.1 (vl_fr HVL17.out (by decide)).2.2 HFR15.out.1.2.1 HFR15.out.1.2.2).mono ?_
  rw [HNP37.out, HNQ37.out, HCD37.out]
  rintro e w139 ⟨s38, A38, n38, c38, t38, B38, m38, d38, rfl, hr38, hb⟩
  have HB139 := hJ hb
  have HR139hr38 := hJ hr38
  clear hb hr38
  obtain ⟨x140, hx140⟩ := nmz (w139.alloc (.cells #[.bool s38, .slice A38 n38 c38, .bool t38, .slice B38 m38 d38] 35))
  have HB140 := hJ (show Below w139.heap.size w139 x140 by rw [← hx140]; exact ((Below.refl _ _).alloc (Nat.le_refl _) _))
  have HQ140x0 := hJ (show BX 35 x140 w139.heap.size #[.bool s38, .slice A38 n38 c38, .bool t38, .slice B38 m38 d38] by rw [← hx140]; exact (BX.at rfl))
  have HG140x0 := hJ (show w139.heap.size ≤ w139.heap.size by omega)
  have HL140x0 := hJ (show w139.heap.size < x140.heap.size from HQ140x0.out.lt)
  have HC27_32 := hJ (bt (bt (bt (bt HB120.out HB121.out) HB130.out) HB139.out) HB140.out)
  have HQ3x0w32 := hJ (BX.new HQ3x0w27.out HC27_32.out)
  obtain ⟨cl141, cl142, cl143, cl144⟩ := HQ3x0w32.out.c4 0 1 2 3 rfl rfl rfl rfl
  have HC30_32 := hJ (bt HB139.out HB140.out)
  have HQ9x0w32 := hJ (BX.new HQ9x0w30.out HC30_32.out)
  obtain ⟨cl145, cl146, cl147, cl148⟩ := HQ9x0w32.out.c4 0 1 2 3 rfl rfl rfl rfl
  have hv := vl_mul (vl_self HFR11.out.1.1 HFR11.out.2.1 HFR11.out.2.2) (vl_self HFR15.out.1.1 HFR15.out.2.1 HFR15.out.2.2) (by decide)
  obtain ⟨P39, hP⟩ := nmz (muP p11 q11 p15 q15)
  obtain ⟨Q39, hQ⟩ := nmz (muQ p11 q11 p15 q15)
  rw [hP, hQ] at hv
  have HCD39 := hJ hv.1
  have HVL39 := hJ (show Vl 4002 P39 Q39 (p11 * p15) (q11 * q15) from hv.2)
  have HNP39 := hJ hP
  have HNQ39 := hJ hQ
  clear hv hP hQ
  have HR2hr12w32 := hJ (PF.new HR2hr12w27.out HC27_32.out)
  have HR8hr16w32 := hJ (PF.new HR8hr16w30.out HC30_32.out)
  go_wp2_with fail
  clear hx140 cl141 cl142 cl143 cl144 cl145 cl146 cl147 cl148
  refine (fmul_any p11 q11 p15 q15 s12 t12 s16 t16 A12 B12 A16 B16 n12 c12 m12 d12 n16 c16 m16 d16 x140 HR2hr12w32.out HR8hr16w32.out HFR11.out.1.1.1 HFR15.out.1.1.1 HFR11.out.1.2.1 HFR11.out.1.2.2 HFR15.out.1.2.1 HFR15.out.1.2.2).mono ?_
  rw [HNP39.out, HNQ39.out, HCD39.out]
  rintro e w149 ⟨s40, A40, n40, c40, t40, B40, m40, d40, rfl, hr40, hb⟩
  have HB149 := hJ hb
  have HR149hr40 := hJ hr40
  clear hb hr40
  obtain ⟨x150, hx150⟩ := nmz (w149.alloc (.cells #[.bool s40, .slice A40 n40 c40, .bool t40, .slice B40 m40 d40] 35))
  have HB150 := hJ (show Below w149.heap.size w149 x150 by rw [← hx150]; exact ((Below.refl _ _).alloc (Nat.le_refl _) _))
  have HQ150x0 := hJ (show BX 35 x150 w149.heap.size #[.bool s40, .slice A40 n40 c40, .bool t40, .slice B40 m40 d40] by rw [← hx150]; exact (BX.at rfl))
  have HG150x0 := hJ (show w149.heap.size ≤ w149.heap.size by omega)
  have HL150x0 := hJ (show w149.heap.size < x150.heap.size from HQ150x0.out.lt)
  have HC25_34 := hJ (bt (bt (bt (bt HC25_30.out HB139.out) HB140.out) HB149.out) HB150.out)
  have HQ6x0w34 := hJ (BX.new HQ6x0w25.out HC25_34.out)
  obtain ⟨cl151, cl152, cl153, cl154⟩ := HQ6x0w34.out.c4 0 1 2 3 rfl rfl rfl rfl
  have HC32_34 := hJ (bt HB149.out HB150.out)
  have HQ9x0w34 := hJ (BX.new HQ9x0w32.out HC32_34.out)
  obtain ⟨cl155, cl156, cl157, cl158⟩ := HQ9x0w34.out.c4 0 1 2 3 rfl rfl rfl rfl
  have hv := vl_mul (vl_self HFR13.out.1.1 HFR13.out.2.1 HFR13.out.2.2) (vl_self HFR15.out.1.1 HFR15.out.2.1 HFR15.out.2.2) (by decide)
  obtain ⟨P41, hP⟩ := nmz (muP p13 q13 p15 q15)
  obtain ⟨Q41, hQ⟩ := nmz (muQ p13 q13 p15 q15)
  rw [hP, hQ] at hv
  have HCD41 := hJ hv.1
  have HVL41 := hJ (show Vl 4002 P41 Q41 (p13 * p15) (q13 * q15) from hv.2)
  have HNP41 := hJ hP
  have HNQ41 := hJ hQ
  clear hv hP hQ
  have HR5hr14w34 := hJ (PF.new HR5hr14w25.out HC25_34.out)
  have HR8hr16w34 := hJ (PF.new HR8hr16w32.out HC32_34.out)
  go_wp2_with fail
  clear hx150 cl151 cl152 cl153 cl154 cl155 cl156 cl157 cl158
  refine (fmul_any p13 q13 p15 q15 s14 t14 s16 t16 A14 B14 A16 B16 n14 c14 m14 d14 n16 c16 m16 d16 x150 HR5hr14w34.out HR8hr16w34.out HFR13.out.1.1.1 HFR15.out.1.1.1 HFR13.out.1.2.1 HFR13.out.1.2.2 HFR15.out.1.2.1 HFR15.out.1.2.2).mono ?_
  rw [HNP41.out, HNQ41.out, HCD41.out]
  rintro e w159 ⟨s42, A42, n42, c42, t42, B42, m42, d42, rfl, hr42, hb⟩
  have HB159 := hJ hb
  have HR159hr42 := hJ hr42
  clear hb hr42
  have HC27_35 := hJ (bt (bt (bt HC27_32.out HB149.out) HB150.out) HB159.out)
  have HQ111x0w35 := hJ (BX.new HQ111x0.out HC27_35.out)
  have fz160_0 := HQ111x0w35.out.frozen 0
  have fc160_0 := HQ111x0w35.out.cell 0 rfl
  have fz160_1 := HQ111x0w35.out.frozen 1
  have fc160_1 := HQ111x0w35.out.cell 1 rfl
  have fz160_2 := HQ111x0w35.out.frozen 2
  have fc160_2 := HQ111x0w35.out.cell 2 rfl
  have fz160_3 := HQ111x0w35.out.frozen 3
  have fc160_3 := HQ111x0w35.out.cell 3 rfl
  obtain ⟨x160, hx160⟩ := nmz (World.setCell (World.setCell (World.setCell (World.setCell w159 ⟨w110.heap.size, 0, none⟩ (.bool s42)) ⟨w110.heap.size, 1, none⟩ (.slice A42 n42 c42)) ⟨w110.heap.size, 2, none⟩ (.bool t42)) ⟨w110.heap.size, 3, none⟩ (.slice B42 m42 d42))
  have HE160 := hJ (show sto w159 w110.heap.size 0 [.bool s42, .slice A42 n42 c42, .bool t42, .slice B42 m42 d42] = x160 from hx160)
  have HQ160s := hJ (show BX 35 x160 w110.heap.size #[.bool s42, .slice A42 n42 c42, .bool t42, .slice B42 m42 d42] by rw [← HE160.out]; exact BX.put HQ111x0w35.out _ _)
  have HQ150x0w35 := hJ (BX.new HQ150x0.out HB159.out)
  have HC27_33 := hJ (bt HC27_32.out HB149.out)
  have HQ150x0w36 := hJ (show BX 35 x160 w149.heap.size #[.bool s40, .slice A40 n40 c40, .bool t40, .slice B40 m40 d40] by rw [← HE160.out]; exact BX.far HQ150x0w35.out (show w149.heap.size ≠ w110.heap.size by have h1 := HL111x0.out; have h2 := HG150x0.out; have h3 := (HC27_33.out).size; omega) _ _)
  obtain ⟨cl161, cl162, cl163, cl164⟩ := HQ150x0w36.out.c4 0 1 2 3 rfl rfl rfl rfl
  obtain ⟨cl165, cl166, cl167, cl168⟩ := HQ160s.out.c4 0 1 2 3 rfl rfl rfl rfl
  have hv := vl_add HVL39.out HVL41.out (by decide)
  obtain ⟨P43, hP⟩ := nmz (adP P39 Q39 P41 Q41)
  obtain ⟨Q43, hQ⟩ := nmz (adQ P39 Q39 P41 Q41)
  rw [hP, hQ] at hv
  have HCD43 := hJ hv.1
  have HVL43 := hJ (show Vl 8005 P43 Q43 ((p11 * p15) * (q13 * q15) + (p13 * p15) * (q11 * q15)) ((q11 * q15) * (q13 * q15)) from hv.2)
  have HNP43 := hJ hP
  have HNQ43 := hJ hQ
  clear hv hP hQ
  have HC33_35 := hJ (bt HB150.out HB159.out)
  have HR149hr40w35 := hJ (PF.new HR149hr40.out HC33_35.out)
  have HR149hr40w36 := hJ (show PF x160 s40 A40 n40 c40 t40 B40 m40 d40 P39 Q39 by rw [← HE160.out]; exact PF.sto HR149hr40w35.out HQ111x0w35.out rfl _ _)
  have HR159hr42w36 := hJ (show PF x160 s42 A42 n42 c42 t42 B42 m42 d42 P41 Q41 by rw [← HE160.out]; exact PF.sto HR159hr42.out HQ111x0w35.out rfl _ _)
  go_wp2_with fail
  clear fz160_0 fc160_0 fz160_1 fc160_1 fz160_2 fc160_2 fz160_3 fc160_3 hx160 cl161 cl162 cl163 cl164 cl165 cl166 cl167 cl168
  refine (fadd_any P39 Q39 P41 Q41 s40 t40 s42 t42 A40 B40 A42 B42 n40 c40 m40 d40 n42 c42 m42 d42 x160 HR149hr40w36.out HR159hr42w36.out (vl_fr HVL39.out (by decide)).1.1 (vl_fr HVL41.out (by decide)).1.1 (vl_fr HVL39.out (by decide)).2.1 (vl_fr HVL39.out (by decide)).2.2 (vl_fr HVL41.out (by decide)).2.1 (vl_fr HVL41.out (by decide)).2.2).mono ?_
  rw [HNP43.out, HNQ43.out, HCD43.out]
  rintro e w169 ⟨s44, A44, n44, c44, t44, B44, m44, d44, rfl, hr44, hb⟩
  have HB169 := hJ hb
  have HR169hr44 := hJ hr44
  clear hb hr44
  obtain ⟨x170, hx170⟩ := nmz (w169.alloc (.cells #[.bool s44, .slice A44 n44 c44, .bool t44, .slice B44 m44 d44] 35))
  have HB170 := hJ (show Below w169.heap.size w169 x170 by rw [← hx170]; exact ((Below.refl _ _).alloc (Nat.le_refl _) _))
  have HQ170x0 := hJ (show BX 35 x170 w169.heap.size #[.bool s44, .slice A44 n44 c44, .bool t44, .slice B44 m44 d44] by rw [← hx170]; exact (BX.at rfl))
  have HG170x0 := hJ (show w169.heap.size ≤ w169.heap.size by omega)
  have HL170x0 := hJ (show w169.heap.size < x170.heap.size from HQ170x0.out.lt)
  have HC32_35 := hJ (bt HC32_34.out HB159.out)
  have HQ140x0w35 := hJ (BX.new HQ140x0.out HC32_35.out)
  have HC27_31 := hJ (bt (bt (bt HB120.out HB121.out) HB130.out) HB139.out)
  have HQ140x0w36 := hJ (show BX 35 x160 w139.heap.size #[.bool s38, .slice A38 n38 c38, .bool t38, .slice B38 m38 d38] by rw [← HE160.out]; exact BX.far HQ140x0w35.out (show w139.heap.size ≠ w110.heap.size by have h1 := HL111x0.out; have h2 := HG140x0.out; have h3 := (HC27_31.out).size; omega) _ _)
  have HC36_38 := hJ (bt HB169.out HB170.out)
  have HQ140x0w38 := hJ (BX.new HQ140x0w36.out HC36_38.out)
  obtain ⟨cl171, cl172, cl173, cl174⟩ := HQ140x0w38.out.c4 0 1 2 3 rfl rfl rfl rfl
  obtain ⟨cl175, cl176, cl177, cl178⟩ := HQ170x0.out.c4 0 1 2 3 rfl rfl rfl rfl
  have HEQ45 := hJ (vl_eq HVL37.out HVL43.out (fe4 p11 q11 p13 q13 p15 q15))
  have HC31_35 := hJ (bt (bt (bt HB140.out HB149.out) HB150.out) HB159.out)
  have HR139hr38w35 := hJ (PF.new HR139hr38.out HC31_35.out)
  have HR139hr38w36 := hJ (show PF x160 s38 A38 n38 c38 t38 B38 m38 d38 P37 Q37 by rw [← HE160.out]; exact PF.sto HR139hr38w35.out HQ111x0w35.out rfl _ _)
  have HR139hr38w38 := hJ (PF.new HR139hr38w36.out HC36_38.out)
  have HR169hr44w38 := hJ (PF.new HR169hr44.out HB170.out)
  go_wp2_with fail
  clear hx170 cl171 cl172 cl173 cl174 cl175 cl176 cl177 cl178
  refine (l4equal_any P37 Q37 P43 Q43 s38 t38 s44 t44 A38 B38 A44 B44 n38 c38 m38 d38 n44 c44 m44 d44 x170 HR139hr38w38.out HR169hr44w38.out (vl_fr HVL37.out (by decide)) (vl_fr HVL43.out (by decide))).mono ?_
  rw [HEQ45.out]
  rintro e w179 ⟨rfl, hb⟩
  have HB179 := hJ hb
  clear hb
  have HC18_26 := hJ (bt (bt (bt (bt (bt (bt (bt HB67.out HB76.out) HB77.out) HB86.out) HB91.out) HB100.out) HB101.out) HB110.out)
  have HC18_36 := hJ (show Below w58.heap.size w58 x160 by rw [← HE160.out]; exact below_sto (bt (bt (bt (bt (bt (bt (bt (bt (bt (bt (bt (bt (bt (bt (bt (bt HB67.out HB76.out) HB77.out) HB86.out) HB91.out) HB100.out) HB101.out) HB110.out) HB111.out) HB120.out) HB121.out) HB130.out) HB139.out) HB140.out) HB149.out) HB150.out) HB159.out) (Nat.le_trans (HC18_26.out).size HG111x0.out) _ _)
  have HC18_39 := hJ (bt (bt (bt HC18_36.out HB169.out) HB170.out) HB179.out)
  have HQ39x0w39 := hJ (BX.new HQ39x0w18.out HC18_39.out)
  obtain ⟨cl180, cl181, cl182, cl183⟩ := HQ39x0w39.out.c4 0 1 2 3 rfl rfl rfl rfl
  have HQ9x0w35 := hJ (BX.new HQ9x0w34.out HB159.out)
  have HC9_26 := hJ (bt (bt (bt HC9_23.out HB100.out) HB101.out) HB110.out)
  have HQ9x0w36 := hJ (show BX 35 x160 w8.heap.size #[.bool s16, .slice A16 n16 c16, .bool t16, .slice B16 m16 d16] by rw [← HE160.out]; exact BX.far HQ9x0w35.out (show w8.heap.size ≠ w110.heap.size by have h1 := HL9x0.out; have h2 := HG111x0.out; have h3 := (HC9_26.out).size; omega) _ _)
  have HC36_39 := hJ (bt HC36_38.out HB179.out)
  have HQ9x0w39 := hJ (BX.new HQ9x0w36.out HC36_39.out)
  obtain ⟨cl184, cl185, cl186, cl187⟩ := HQ9x0w39.out.c4 0 1 2 3 rfl rfl rfl rfl
  have hv := vl_mul HVL21.out (vl_self HFR15.out.1.1 HFR15.out.2.1 HFR15.out.2.2) (by decide)
  obtain ⟨P46, hP⟩ := nmz (muP P21 Q21 p15 q15)
  obtain ⟨Q46, hQ⟩ := nmz (muQ P21 Q21 p15 q15)
  rw [hP, hQ] at hv
  have HCD46 := hJ hv.1
  have HVL46 := hJ (show Vl 6003 P46 Q46 ((p11 * p13) * p15) ((q11 * q13) * q15) from hv.2)
  have HNP46 := hJ hP
  have HNQ46 := hJ hQ
  clear hv hP hQ
  have HR38hr22w39 := hJ (PF.new HR38hr22w18.out HC18_39.out)
  have HR8hr16w35 := hJ (PF.new HR8hr16w34.out HB159.out)
  have HR8hr16w36 := hJ (show PF x160 s16 A16 n16 c16 t16 B16 m16 d16 p15 q15 by rw [← HE160.out]; exact PF.sto HR8hr16w35.out HQ111x0w35.out rfl _ _)
  have HR8hr16w39 := hJ (PF.new HR8hr16w36.out HC36_39.out)
  go_wp2_with fail
  clear cl180 cl181 cl182 cl183 cl184 cl185 cl186 cl187
  refine (fmul_any P21 Q21 p15 q15 s22 t22 s16 t16 A22 B22 A16 B16 n22 c22 m22 d22 n16 c16 m16 d16 w179 HR38hr22w39.out HR8hr16w39.out (vl_fr HVL21.out (by decide)).1.1 HFR15.out.1.1.1 (vl_fr HVL21.out (by decide)).2.1 (vl_fr HVL21.out (by decide)).2.2 HFR15.out.1.2.1 HFR15.out.1.2.2).mono ?_
  rw [HNP46.out, HNQ46.out, HCD46.out]
  rintro e w188 ⟨s47, A47, n47, c47, t47, B47, m47, d47, rfl, hr47, hb⟩
  have HB188 := hJ hb
  have HR188hr47 := hJ hr47
  clear hb hr47
  obtain ⟨x189, hx189⟩ := nmz (w188.alloc (.cells #[.bool s47, .slice A47 n47 c47, .bool t47, .slice B47 m47 d47] 35))
  have HB189 := hJ (show Below w188.heap.size w188 x189 by rw [← hx189]; exact ((Below.refl _ _).alloc (Nat.le_refl _) _))
  have HQ189x0 := hJ (show BX 35 x189 w188.heap.size #[.bool s47, .slice A47 n47 c47, .bool t47, .slice B47 m47 d47] by rw [← hx189]; exact (BX.at rfl))
  have HG189x0 := hJ (show w188.heap.size ≤ w188.heap.size by omega)
  have HL189x0 := hJ (show w188.heap.size < x189.heap.size from HQ189x0.out.lt)
  have HQ3x0w35 := hJ (BX.new HQ3x0w32.out HC32_35.out)
  have HC3_26 := hJ (bt (bt (bt (bt (bt (bt (bt (bt (bt (bt (bt (bt (bt (bt (bt (bt (bt HC3_9.out HB18.out) HB19.out) HB28.out) HB29.out) HB38.out) HB39.out) HB48.out) HB49.out) HB58.out) HB67.out) HB76.out) HB77.out) HB86.out) HB91.out) HB100.out) HB101.out) HB110.out)
  have HQ3x0w36 := hJ (show BX 35 x160 w2.heap.size #[.bool s12, .slice A12 n12 c12, .bool t12, .slice B12 m12 d12] by rw [← HE160.out]; exact BX.far HQ3x0w35.out (show w2.heap.size ≠ w110.heap.size by have h1 := HL3x0.out; have h2 := HG111x0.out; have h3 := (HC3_26.out).size; omega) _ _)
  have HC36_41 := hJ (bt (bt HC36_39.out HB188.out) HB189.out)
  have HQ3x0w41 := hJ (BX.new HQ3x0w36.out HC36_41.out)
  obtain ⟨cl190, cl191, cl192, cl193⟩ := HQ3x0w41.out.c4 0 1 2 3 rfl rfl rfl rfl
  have HQ160sw41 := hJ (BX.new HQ160s.out HC36_41.out)
  obtain ⟨cl194, cl195, cl196, cl197⟩ := HQ160sw41.out.c4 0 1 2 3 rfl rfl rfl rfl
  have hv := vl_mul (vl_self HFR11.out.1.1 HFR11.out.2.1 HFR11.out.2.2) HVL41.out (by decide)
  obtain ⟨P48, hP⟩ := nmz (muP p11 q11 P41 Q41)
  obtain ⟨Q48, hQ⟩ := nmz (muQ p11 q11 P41 Q41)
  rw [hP, hQ] at hv
  have HCD48 := hJ hv.1
  have HVL48 := hJ (show Vl 6003 P48 Q48 (p11 * (p13 * p15)) (q11 * (q13 * q15)) from hv.2)
  have HNP48 := hJ hP
  have HNQ48 := hJ hQ
  clear hv hP hQ
  have HR2hr12w35 := hJ (PF.new HR2hr12w32.out HC32_35.out)
  have HR2hr12w36 := hJ (show PF x160 s12 A12 n12 c12 t12 B12 m12 d12 p11 q11 by rw [← HE160.out]; exact PF.sto HR2hr12w35.out HQ111x0w35.out rfl _ _)
  have HR2hr12w41 := hJ (PF.new HR2hr12w36.out HC36_41.out)
  have HR159hr42w41 := hJ (PF.new HR159hr42w36.out HC36_41.out)
  go_wp2_with fail
  clear hx189 cl190 cl191 cl192 cl193 cl194 cl195 cl196 cl197
  refine (fmul_any p11 q11 P41 Q41 s12 t12 s42 t42 A12 B12 A42 B42 n12 c12 m12 d12 n42 c42 m42 d42 x189 HR2hr12w41.out HR159hr42w41.out HFR11.out.1.1.1 (vl_fr HVL41.out (by decide)).1.1 HFR11.out.1.2.1 HFR11.out.1.2.2 (vl_fr HVL41.out (by decide)).2.1 (vl_fr HVL41.out (by decide)).2.2).mono ?_
  rw [HNP48.out, HNQ48.out, HCD48.out]
  rintro e w198 ⟨s49, A49, n49, c49, t49, B49, m49, d49, rfl, hr49, hb⟩
  have HB198 := hJ hb
  have HR198hr49 := hJ hr49
  clear hb hr49
  have HC29_35 := hJ (bt (bt (bt (bt (bt HB130.out HB139.out) HB140.out) HB149.out) HB150.out) HB159.out)
  have HQ101x0w35 := hJ (BX.new HQ101x0w29.out HC29_35.out)
  have HQ101x0w36 := hJ (show BX 35 x160 w100.heap.size #[.bool s31, .slice A31 n31 c31, .bool t31, .slice B31 m31 d31] by rw [← HE160.out]; exact BX.far HQ101x0w35.out (show w100.heap.size ≠ w110.heap.size by have h1 := HL101x0.out; have h2 := HG111x0.out; have h3 := (HB110.out).size; omega) _ _)
  have HC36_42 := hJ (bt HC36_41.out HB198.out)
  have HQ101x0w42 := hJ (BX.new HQ101x0w36.out HC36_42.out)
  have fz199_0 := HQ101x0w42.out.frozen 0
  have fc199_0 := HQ101x0w42.out.cell 0 rfl
  have fz199_1 := HQ101x0w42.out.frozen 1
  have fc199_1 := HQ101x0w42.out.cell 1 rfl
  have fz199_2 := HQ101x0w42.out.frozen 2
  have fc199_2 := HQ101x0w42.out.cell 2 rfl
  have fz199_3 := HQ101x0w42.out.frozen 3
  have fc199_3 := HQ101x0w42.out.cell 3 rfl
  obtain ⟨x199, hx199⟩ := nmz (World.setCell (World.setCell (World.setCell (World.setCell w198 ⟨w100.heap.size, 0, none⟩ (.bool s49)) ⟨w100.heap.size, 1, none⟩ (.slice A49 n49 c49)) ⟨w100.heap.size, 2, none⟩ (.bool t49)) ⟨w100.heap.size, 3, none⟩ (.slice B49 m49 d49))
  have HE199 := hJ (show sto w198 w100.heap.size 0 [.bool s49, .slice A49 n49 c49, .bool t49, .slice B49 m49 d49] = x199 from hx199)
  have HQ199s := hJ (show BX 35 x199 w100.heap.size #[.bool s49, .slice A49 n49 c49, .bool t49, .slice B49 m49 d49] by rw [← HE199.out]; exact BX.put HQ101x0w42.out _ _)
  have HQ189x0w42 := hJ (BX.new HQ189x0.out HB198.out)
  have HC25_36 := hJ (show Below x101.heap.size x101 x160 by rw [← HE160.out]; exact below_sto (bt HC25_34.out HB159.out) (Nat.le_trans (HB110.out).size HG111x0.out) _ _)
  have HC25_40 := hJ (bt (bt (bt (bt HC25_36.out HB169.out) HB170.out) HB179.out) HB188.out)
  have HQ189x0w43 := hJ (show BX 35 x199 w188.heap.size #[.bool s47, .slice A47 n47 c47, .bool t47, .slice B47 m47 d47] by rw [← HE199.out]; exact BX.far HQ189x0w42.out (show w188.heap.size ≠ w100.heap.size by have h1 := HL101x0.out; have h2 := HG189x0.out; have h3 := (HC25_40.out).size; omega) _ _)
  obtain ⟨cl200, cl201, cl202, cl203⟩ := HQ189x0w43.out.c4 0 1 2 3 rfl rfl rfl rfl
  obtain ⟨cl204, cl205, cl206, cl207⟩ := HQ199s.out.c4 0 1 2 3 rfl rfl rfl rfl
  have HEQ50 := hJ (vl_eq HVL46.out HVL48.out (fe5 p11 q11 p13 q13 p15 q15))
  have HC40_42 := hJ (bt HB189.out HB198.out)
  have HR188hr47w42 := hJ (PF.new HR188hr47.out HC40_42.out)
  have HR188hr47w43 := hJ (show PF x199 s47 A47 n47 c47 t47 B47 m47 d47 P46 Q46 by rw [← HE199.out]; exact PF.sto HR188hr47w42.out HQ101x0w42.out rfl _ _)
  have HR198hr49w43 := hJ (show PF x199 s49 A49 n49 c49 t49 B49 m49 d49 P48 Q48 by rw [← HE199.out]; exact PF.sto HR198hr49.out HQ101x0w42.out rfl _ _)
  go_wp2_with fail
  clear fz199_0 fc199_0 fz199_1 fc199_1 fz199_2 fc199_2 fz199_3 fc199_3 hx199 cl200 cl201 cl202 cl203 cl204 cl205 cl206 cl207
  refine (l4equal_any P46 Q46 P48 Q48 s47 t47 s49 t49 A47 B47 A49 B49 n47 c47 m47 d47 n49 c49 m49 d49 x199 HR188hr47w43.out HR198hr49w43.out (vl_fr HVL46.out (by decide)) (vl_fr HVL48.out (by decide))).mono ?_
  rw [HEQ50.out]
  rintro e w208 ⟨rfl, hb⟩
  have HB208 := hJ hb
  clear hb
  go_wp2_with fail
  refine (l4lives_any w208).mono ?_
  rintro e w209 ⟨rfl, hb⟩
  have HB209 := hJ hb
  clear hb
  have HC0_26 := hJ (bt (bt (bt (bt (bt (bt (bt (bt (bt (bt (bt (bt (bt (bt (bt (bt (bt (bt (bt (bt (bt (bt (bt HC0_3.out HB4.out) HB5.out) HB6.out) HB7.out) HB8.out) HB9.out) HB18.out) HB19.out) HB28.out) HB29.out) HB38.out) HB39.out) HB48.out) HB49.out) HB58.out) HB67.out) HB76.out) HB77.out) HB86.out) HB91.out) HB100.out) HB101.out) HB110.out)
  have HC0_36 := hJ (show Below w.heap.size w x160 by rw [← HE160.out]; exact below_sto (bt (bt (bt (bt (bt (bt (bt (bt (bt (bt (bt (bt (bt (bt (bt (bt (bt (bt (bt (bt (bt (bt (bt (bt (bt (bt (bt (bt (bt (bt (bt (bt HC0_3.out HB4.out) HB5.out) HB6.out) HB7.out) HB8.out) HB9.out) HB18.out) HB19.out) HB28.out) HB29.out) HB38.out) HB39.out) HB48.out) HB49.out) HB58.out) HB67.out) HB76.out) HB77.out) HB86.out) HB91.out) HB100.out) HB101.out) HB110.out) HB111.out) HB120.out) HB121.out) HB130.out) HB139.out) HB140.out) HB149.out) HB150.out) HB159.out) (Nat.le_trans (HC0_26.out).size HG111x0.out) _ _)
  have HC0_24 := hJ (bt (bt (bt (bt (bt (bt (bt (bt (bt (bt (bt (bt (bt (bt (bt (bt (bt (bt (bt (bt (bt HC0_3.out HB4.out) HB5.out) HB6.out) HB7.out) HB8.out) HB9.out) HB18.out) HB19.out) HB28.out) HB29.out) HB38.out) HB39.out) HB48.out) HB49.out) HB58.out) HB67.out) HB76.out) HB77.out) HB86.out) HB91.out) HB100.out)
  have HC0_43 := hJ (show Below w.heap.size w x199 by rw [← HE199.out]; exact below_sto (bt (bt (bt (bt (bt (bt HC0_36.out HB169.out) HB170.out) HB179.out) HB188.out) HB189.out) HB198.out) (Nat.le_trans (HC0_24.out).size HG101x0.out) _ _)
  have HC0_45 := hJ (bt (bt HC0_43.out HB208.out) HB209.out)
  go_wp2
  go_ret
  exact ⟨rfl, HC0_45.out⟩
 ·obtain ⟨u, hu⟩ := nmz (cmpI p13 0)
  have HU := hJ hu
  have hu0 : ¬ u = 0 := by rw [← hu]; exact fun e => by have h1 := cmpI_zero h0; rw [e] at h1; exact absurd h1 (by decide)
  have HNZ := hJ h0
  clear hu h0
  have HC19_22 := hJ (bt (bt HB76.out HB77.out) HB86.out)
  have HQ6x0w22 := hJ (BX.new HQ6x0w19.out HC19_22.out)
  obtain ⟨cl210, cl211, cl212, cl213⟩ := HQ6x0w22.out.c4 0 1 2 3 rfl rfl rfl rfl
  have HR5hr14w22 := hJ (PF.new HR5hr14w19.out HC19_22.out)
  go_wp2_with fail
  clear cl210 cl211 cl212 cl213
  refine (fsign_any p13 q13 s14 t14 A14 B14 n14 c14 m14 d14 w86 HR5hr14w22.out HFR13.out.1.2.1).mono ?_
  rw [HU.out]
  rintro e w214 ⟨rfl, hb⟩
  have HB214 := hJ hb
  clear hb
  have HC18_23 := hJ (bt (bt (bt (bt HB67.out HB76.out) HB77.out) HB86.out) HB214.out)
  have HQ39x0w23 := hJ (BX.new HQ39x0w18.out HC18_23.out)
  obtain ⟨cl215, cl216, cl217, cl218⟩ := HQ39x0w23.out.c4 0 1 2 3 rfl rfl rfl rfl
  have HQ6x0w23 := hJ (BX.new HQ6x0w22.out HB214.out)
  obtain ⟨cl219, cl220, cl221, cl222⟩ := HQ6x0w23.out.c4 0 1 2 3 rfl rfl rfl rfl
  have hv := vl_div HVL21.out (vl_self HFR13.out.1.1 HFR13.out.2.1 HFR13.out.2.2) HNZ.out (by decide)
  obtain ⟨P51, hP⟩ := nmz (dvP P21 Q21 p13 q13)
  obtain ⟨Q51, hQ⟩ := nmz (dvQ P21 Q21 p13 q13)
  rw [hP, hQ] at hv
  have HCD51 := hJ hv.1
  have HVL51 := hJ (show Vl 6003 P51 Q51 ((p11 * p13) * q13) ((q11 * q13) * p13) from hv.2)
  have HNP51 := hJ hP
  have HNQ51 := hJ hQ
  clear hv hP hQ
  have HR38hr22w23 := hJ (PF.new HR38hr22w18.out HC18_23.out)
  have HR5hr14w23 := hJ (PF.new HR5hr14w22.out HB214.out)
  go_wp2_with fail
  clear cl215 cl216 cl217 cl218 cl219 cl220 cl221 cl222
  refine (fdiv_any P21 Q21 p13 q13 s22 t22 s14 t14 A22 B22 A14 B14 n22 c22 m22 d22 n14 c14 m14 d14 w214 HR38hr22w23.out HR5hr14w23.out (vl_fr HVL21.out (by decide)).1.1 HFR13.out.1.1.1 (vl_fr HVL21.out (by decide)).2.1 (vl_fr HVL21.out (by decide)).2.2 HFR13.out.1.2.1 HFR13.out.1.2.2).mono ?_
  rw [HNP51.out, HNQ51.out, HCD51.out]
  rintro e w223 ⟨s52, A52, n52, c52, t52, B52, m52, d52, rfl, hr52, hb⟩
  have HB223 := hJ hb
  have HR223hr52 := hJ hr52
  clear hb hr52
  obtain ⟨x224, hx224⟩ := nmz (w223.alloc (.cells #[.bool s52, .slice A52 n52 c52, .bool t52, .slice B52 m52 d52] 35))
  have HB224 := hJ (show Below w223.heap.size w223 x224 by rw [← hx224]; exact ((Below.refl _ _).alloc (Nat.le_refl _) _))
  have HQ224x0 := hJ (show BX 35 x224 w223.heap.size #[.bool s52, .slice A52 n52 c52, .bool t52, .slice B52 m52 d52] by rw [← hx224]; exact (BX.at rfl))
  have HG224x0 := hJ (show w223.heap.size ≤ w223.heap.size by omega)
  have HL224x0 := hJ (show w223.heap.size < x224.heap.size from HQ224x0.out.lt)
  obtain ⟨cl225, cl226, cl227, cl228⟩ := HQ224x0.out.c4 0 1 2 3 rfl rfl rfl rfl
  have HC21_25 := hJ (bt (bt (bt HB86.out HB214.out) HB223.out) HB224.out)
  have HQ3x0w25 := hJ (BX.new HQ3x0w21.out HC21_25.out)
  obtain ⟨cl229, cl230, cl231, cl232⟩ := HQ3x0w25.out.c4 0 1 2 3 rfl rfl rfl rfl
  have HEQ53 := hJ (vl_eq HVL51.out (vl_self HFR11.out.1.1 HFR11.out.2.1 HFR11.out.2.2) (fe6 p11 q11 p13 q13 p15 q15))
  have HR223hr52w25 := hJ (PF.new HR223hr52.out HB224.out)
  have HR2hr12w25 := hJ (PF.new HR2hr12w21.out HC21_25.out)
  go_wp2_with fail
  clear hx224 cl225 cl226 cl227 cl228 cl229 cl230 cl231 cl232
  refine (l4equal_any P51 Q51 p11 q11 s52 t52 s12 t12 A52 B52 A12 B12 n52 c52 m52 d52 n12 c12 m12 d12 x224 HR223hr52w25.out HR2hr12w25.out (vl_fr HVL51.out (by decide)) HFR11.out.1).mono ?_
  rw [HEQ53.out]
  rintro e w233 ⟨rfl, hb⟩
  have HB233 := hJ hb
  clear hb
  have HC19_26 := hJ (bt (bt (bt (bt HC19_22.out HB214.out) HB223.out) HB224.out) HB233.out)
  have HQ19x0w26 := hJ (BX.new HQ19x0w19.out HC19_26.out)
  obtain ⟨cl234, cl235, cl236, cl237⟩ := HQ19x0w26.out.c4 0 1 2 3 rfl rfl rfl rfl
  have HC9_26 := hJ (bt (bt (bt (bt (bt (bt (bt (bt (bt (bt (bt (bt (bt (bt (bt HC9_11.out HB28.out) HB29.out) HB38.out) HB39.out) HB48.out) HB49.out) HB58.out) HB67.out) HB76.out) HB77.out) HB86.out) HB214.out) HB223.out) HB224.out) HB233.out)
  have HQ9x0w26 := hJ (BX.new HQ9x0.out HC9_26.out)
  obtain ⟨cl238, cl239, cl240, cl241⟩ := HQ9x0w26.out.c4 0 1 2 3 rfl rfl rfl rfl
  have hv := vl_add HVL17.out (vl_self HFR15.out.1.1 HFR15.out.2.1 HFR15.out.2.2) (by decide)
  obtain ⟨P54, hP⟩ := nmz (adP P17 Q17 p15 q15)
  obtain ⟨Q54, hQ⟩ := nmz (adQ P17 Q17 p15 q15)
  rw [hP, hQ] at hv
  have HCD54 := hJ hv.1
  have HVL54 := hJ (show Vl 6005 P54 Q54 ((p11 * q13 + p13 * q11) * q15 + p15 * (q11 * q13)) ((q11 * q13) * q15) from hv.2)
  have HNP54 := hJ hP
  have HNQ54 := hJ hQ
  clear hv hP hQ
  have HR18hr18w26 := hJ (PF.new HR18hr18w19.out HC19_26.out)
  have HC8_26 := hJ (bt (bt (bt (bt (bt (bt (bt (bt (bt (bt (bt (bt (bt (bt (bt (bt (bt HB9.out HB18.out) HB19.out) HB28.out) HB29.out) HB38.out) HB39.out) HB48.out) HB49.out) HB58.out) HB67.out) HB76.out) HB77.out) HB86.out) HB214.out) HB223.out) HB224.out) HB233.out)
  have HR8hr16w26 := hJ (PF.new HR8hr16.out HC8_26.out)
  go_wp2_with fail
  clear cl234 cl235 cl236 cl237 cl238 cl239 cl240 cl241
  refine (fadd_any P17 Q17 p15 q15 s18 t18 s16 t16 A18 B18 A16 B16 n18 c18 m18 d18 n16 c16 m16 d16 w233 HR18hr18w26.out HR8hr16w26.out (vl_fr HVL17.out (by decide)).1.1 HFR15.out.1.1.1 (vl_fr HVL17.out (by decide)).2.1 (vl_fr HVL17.out (by decide)).2.2 HFR15.out.1.2.1 HFR15.out.1.2.2).mono ?_
  rw [HNP54.out, HNQ54.out, HCD54.out]
  rintro e w242 ⟨s55, A55, n55, c55, t55, B55, m55, d55, rfl, hr55, hb⟩
  have HB242 := hJ hb
  have HR242hr55 := hJ hr55
  clear hb hr55
  obtain ⟨x243, hx243⟩ := nmz (w242.alloc (.cells #[.bool s55, .slice A55 n55 c55, .bool t55, .slice B55 m55 d55] 35))
  have HB243 := hJ (show Below w242.heap.size w242 x243 by rw [← hx243]; exact ((Below.refl _ _).alloc (Nat.le_refl _) _))
  have HQ243x0 := hJ (show BX 35 x243 w242.heap.size #[.bool s55, .slice A55 n55 c55, .bool t55, .slice B55 m55 d55] by rw [← hx243]; exact (BX.at rfl))
  have HG243x0 := hJ (show w242.heap.size ≤ w242.heap.size by omega)
  have HL243x0 := hJ (show w242.heap.size < x243.heap.size from HQ243x0.out.lt)
  have HC23_28 := hJ (bt (bt (bt (bt HB223.out HB224.out) HB233.out) HB242.out) HB243.out)
  have HQ6x0w28 := hJ (BX.new HQ6x0w23.out HC23_28.out)
  obtain ⟨cl244, cl245, cl246, cl247⟩ := HQ6x0w28.out.c4 0 1 2 3 rfl rfl rfl rfl
  have HC26_28 := hJ (bt HB242.out HB243.out)
  have HQ9x0w28 := hJ (BX.new HQ9x0w26.out HC26_28.out)
  obtain ⟨cl248, cl249, cl250, cl251⟩ := HQ9x0w28.out.c4 0 1 2 3 rfl rfl rfl rfl
  have hv := vl_add (vl_self HFR13.out.1.1 HFR13.out.2.1 HFR13.out.2.2) (vl_self HFR15.out.1.1 HFR15.out.2.1 HFR15.out.2.2) (by decide)
  obtain ⟨P56, hP⟩ := nmz (adP p13 q13 p15 q15)
  obtain ⟨Q56, hQ⟩ := nmz (adQ p13 q13 p15 q15)
  rw [hP, hQ] at hv
  have HCD56 := hJ hv.1
  have HVL56 := hJ (show Vl 4003 P56 Q56 (p13 * q15 + p15 * q13) (q13 * q15) from hv.2)
  have HNP56 := hJ hP
  have HNQ56 := hJ hQ
  clear hv hP hQ
  have HR5hr14w28 := hJ (PF.new HR5hr14w23.out HC23_28.out)
  have HR8hr16w28 := hJ (PF.new HR8hr16w26.out HC26_28.out)
  go_wp2_with fail
  clear hx243 cl244 cl245 cl246 cl247 cl248 cl249 cl250 cl251
  refine (fadd_any p13 q13 p15 q15 s14 t14 s16 t16 A14 B14 A16 B16 n14 c14 m14 d14 n16 c16 m16 d16 x243 HR5hr14w28.out HR8hr16w28.out HFR13.out.1.1.1 HFR15.out.1.1.1 HFR13.out.1.2.1 HFR13.out.1.2.2 HFR15.out.1.2.1 HFR15.out.1.2.2).mono ?_
  rw [HNP56.out, HNQ56.out, HCD56.out]
  rintro e w252 ⟨s57, A57, n57, c57, t57, B57, m57, d57, rfl, hr57, hb⟩
  have HB252 := hJ hb
  have HR252hr57 := hJ hr57
  clear hb hr57
  obtain ⟨x253, hx253⟩ := nmz (w252.alloc (.cells #[.bool s57, .slice A57 n57 c57, .bool t57, .slice B57 m57 d57] 35))
  have HB253 := hJ (show Below w252.heap.size w252 x253 by rw [← hx253]; exact ((Below.refl _ _).alloc (Nat.le_refl _) _))
  have HQ253x0 := hJ (show BX 35 x253 w252.heap.size #[.bool s57, .slice A57 n57 c57, .bool t57, .slice B57 m57 d57] by rw [← hx253]; exact (BX.at rfl))
  have HG253x0 := hJ (show w252.heap.size ≤ w252.heap.size by omega)
  have HL253x0 := hJ (show w252.heap.size < x253.heap.size from HQ253x0.out.lt)
  have HC25_30 := hJ (bt (bt (bt (bt HB233.out HB242.out) HB243.out) HB252.out) HB253.out)
  have HQ3x0w30 := hJ (BX.new HQ3x0w25.out HC25_30.out)
  obtain ⟨cl254, cl255, cl256, cl257⟩ := HQ3x0w30.out.c4 0 1 2 3 rfl rfl rfl rfl
  obtain ⟨cl258, cl259, cl260, cl261⟩ := HQ253x0.out.c4 0 1 2 3 rfl rfl rfl rfl
  have hv := vl_add (vl_self HFR11.out.1.1 HFR11.out.2.1 HFR11.out.2.2) HVL56.out (by decide)
  obtain ⟨P58, hP⟩ := nmz (adP p11 q11 P56 Q56)
  obtain ⟨Q58, hQ⟩ := nmz (adQ p11 q11 P56 Q56)
  rw [hP, hQ] at hv
  have HCD58 := hJ hv.1
  have HVL58 := hJ (show Vl 6005 P58 Q58 (p11 * (q13 * q15) + (p13 * q15 + p15 * q13) * q11) (q11 * (q13 * q15)) from hv.2)
  have HNP58 := hJ hP
  have HNQ58 := hJ hQ
  clear hv hP hQ
  have HR2hr12w30 := hJ (PF.new HR2hr12w25.out HC25_30.out)
  have HR252hr57w30 := hJ (PF.new HR252hr57.out HB253.out)
  go_wp2_with fail
  clear hx253 cl254 cl255 cl256 cl257 cl258 cl259 cl260 cl261
  refine (fadd_any p11 q11 P56 Q56 s12 t12 s57 t57 A12 B12 A57 B57 n12 c12 m12 d12 n57 c57 m57 d57 x253 HR2hr12w30.out HR252hr57w30.out HFR11.out.1.1.1 (vl_fr HVL56.out (by decide)).1.1 HFR11.out.1.2.1 HFR11.out.1.2.2 (vl_fr HVL56.out (by decide)).2.1 (vl_fr HVL56.out (by decide)).2.2).mono ?_
  rw [HNP58.out, HNQ58.out, HCD58.out]
  rintro e w262 ⟨s59, A59, n59, c59, t59, B59, m59, d59, rfl, hr59, hb⟩
  have HB262 := hJ hb
  have HR262hr59 := hJ hr59
  clear hb hr59
  obtain ⟨x263, hx263⟩ := nmz (w262.alloc (.cells #[.bool s59, .slice A59 n59 c59, .bool t59, .slice B59 m59 d59] 35))
  have HB263 := hJ (show Below w262.heap.size w262 x263 by rw [← hx263]; exact ((Below.refl _ _).alloc (Nat.le_refl _) _))
  have HQ263x0 := hJ (show BX 35 x263 w262.heap.size #[.bool s59, .slice A59 n59 c59, .bool t59, .slice B59 m59 d59] by rw [← hx263]; exact (BX.at rfl))
  have HG263x0 := hJ (show w262.heap.size ≤ w262.heap.size by omega)
  have HL263x0 := hJ (show w262.heap.size < x263.heap.size from HQ263x0.out.lt)
  have HC28_32 := hJ (bt (bt (bt HB252.out HB253.out) HB262.out) HB263.out)
  have HQ243x0w32 := hJ (BX.new HQ243x0.out HC28_32.out)
  obtain ⟨cl264, cl265, cl266, cl267⟩ := HQ243x0w32.out.c4 0 1 2 3 rfl rfl rfl rfl
  obtain ⟨cl268, cl269, cl270, cl271⟩ := HQ263x0.out.c4 0 1 2 3 rfl rfl rfl rfl
  have HEQ60 := hJ (vl_eq HVL54.out HVL58.out (fe7 p11 q11 p13 q13 p15 q15))
  have HC27_32 := hJ (bt (bt (bt (bt HB243.out HB252.out) HB253.out) HB262.out) HB263.out)
  have HR242hr55w32 := hJ (PF.new HR242hr55.out HC27_32.out)
  have HR262hr59w32 := hJ (PF.new HR262hr59.out HB263.out)
  go_wp2_with fail
  clear hx263 cl264 cl265 cl266 cl267 cl268 cl269 cl270 cl271
  refine (l4equal_any P54 Q54 P58 Q58 s55 t55 s59 t59 A55 B55 A59 B59 n55 c55 m55 d55 n59 c59 m59 d59 x263 HR242hr55w32.out HR262hr59w32.out (vl_fr HVL54.out (by decide)) (vl_fr HVL58.out (by decide))).mono ?_
  rw [HEQ60.out]
  rintro e w272 ⟨rfl, hb⟩
  have HB272 := hJ hb
  clear hb
  have HC26_33 := hJ (bt (bt (bt (bt (bt HC26_28.out HB252.out) HB253.out) HB262.out) HB263.out) HB272.out)
  have HQ19x0w33 := hJ (BX.new HQ19x0w26.out HC26_33.out)
  obtain ⟨cl273, cl274, cl275, cl276⟩ := HQ19x0w33.out.c4 0 1 2 3 rfl rfl rfl rfl
  have HC28_33 := hJ (bt HC28_32.out HB272.out)
  have HQ9x0w33 := hJ (BX.new HQ9x0w28.out HC28_33.out)
  obtain ⟨cl277, cl278, cl279, cl280⟩ := HQ9x0w33.out.c4 0 1 2 3 rfl rfl rfl rfl
  have hv := vl_mul HVL17.out (vl_self HFR15.out.1.1 HFR15.out.2.1 HFR15.out.2.2) (by decide)
  obtain ⟨P61, hP⟩ := nmz (muP P17 Q17 p15 q15)
  obtain ⟨Q61, hQ⟩ := nmz (muQ P17 Q17 p15 q15)
  rw [hP, hQ] at hv
  have HCD61 := hJ hv.1
  have HVL61 := hJ (show Vl 6004 P61 Q61 ((p11 * q13 + p13 * q11) * p15) ((q11 * q13) * q15) from hv.2)
  have HNP61 := hJ hP
  have HNQ61 := hJ hQ
  clear hv hP hQ
  have HR18hr18w33 := hJ (PF.new HR18hr18w26.out HC26_33.out)
  have HR8hr16w33 := hJ (PF.new HR8hr16w28.out HC28_33.out)
  go_wp2_with fail
  clear cl273 cl274 cl275 cl276 cl277 cl278 cl279 cl280
  refine (fmul_any P17 Q17 p15 q15 s18 t18 s16 t16 A18 B18 A16 B16 n18 c18 m18 d18 n16 c16 m16 d16 w272 HR18hr18w33.out HR8hr16w33.out (vl_fr HVL17.out (by decide)).1.1 HFR15.out.1.1.1 (vl_fr HVL17.out (by decide)).2.1 (vl_fr HVL17.out (by decide)).2.2 HFR15.out.1.2.1 HFR15.out.1.2.2).mono ?_
  rw [HNP61.out, HNQ61.out, HCD61.out]
  rintro e w281 ⟨s62, A62, n62, c62, t62, B62, m62, d62, rfl, hr62, hb⟩
  have HB281 := hJ hb
  have HR281hr62 := hJ hr62
  clear hb hr62
  obtain ⟨x282, hx282⟩ := nmz (w281.alloc (.cells #[.bool s62, .slice A62 n62 c62, .bool t62, .slice B62 m62 d62] 35))
  have HB282 := hJ (show Below w281.heap.size w281 x282 by rw [← hx282]; exact ((Below.refl _ _).alloc (Nat.le_refl _) _))
  have HQ282x0 := hJ (show BX 35 x282 w281.heap.size #[.bool s62, .slice A62 n62 c62, .bool t62, .slice B62 m62 d62] by rw [← hx282]; exact (BX.at rfl))
  have HG282x0 := hJ (show w281.heap.size ≤ w281.heap.size by omega)
  have HL282x0 := hJ (show w281.heap.size < x282.heap.size from HQ282x0.out.lt)
  have HC30_35 := hJ (bt (bt (bt (bt HB262.out HB263.out) HB272.out) HB281.out) HB282.out)
  have HQ3x0w35 := hJ (BX.new HQ3x0w30.out HC30_35.out)
  obtain ⟨cl283, cl284, cl285, cl286⟩ := HQ3x0w35.out.c4 0 1 2 3 rfl rfl rfl rfl
  have HC33_35 := hJ (bt HB281.out HB282.out)
  have HQ9x0w35 := hJ (BX.new HQ9x0w33.out HC33_35.out)
  obtain ⟨cl287, cl288, cl289, cl290⟩ := HQ9x0w35.out.c4 0 1 2 3 rfl rfl rfl rfl
  have hv := vl_mul (vl_self HFR11.out.1.1 HFR11.out.2.1 HFR11.out.2.2) (vl_self HFR15.out.1.1 HFR15.out.2.1 HFR15.out.2.2) (by decide)
  obtain ⟨P63, hP⟩ := nmz (muP p11 q11 p15 q15)
  obtain ⟨Q63, hQ⟩ := nmz (muQ p11 q11 p15 q15)
  rw [hP, hQ] at hv
  have HCD63 := hJ hv.1
  have HVL63 := hJ (show Vl 4002 P63 Q63 (p11 * p15) (q11 * q15) from hv.2)
  have HNP63 := hJ hP
  have HNQ63 := hJ hQ
  clear hv hP hQ
  have HR2hr12w35 := hJ (PF.new HR2hr12w30.out HC30_35.out)
  have HR8hr16w35 := hJ (PF.new HR8hr16w33.out HC33_35.out)
  go_wp2_with fail
  clear hx282 cl283 cl284 cl285 cl286 cl287 cl288 cl289 cl290
  refine (fmul_any p11 q11 p15 q15 s12 t12 s16 t16 A12 B12 A16 B16 n12 c12 m12 d12 n16 c16 m16 d16 x282 HR2hr12w35.out HR8hr16w35.out HFR11.out.1.1.1 HFR15.out.1.1.1 HFR11.out.1.2.1 HFR11.out.1.2.2 HFR15.out.1.2.1 HFR15.out.1.2.2).mono ?_
  rw [HNP63.out, HNQ63.out, HCD63.out]
  rintro e w291 ⟨s64, A64, n64, c64, t64, B64, m64, d64, rfl, hr64, hb⟩
  have HB291 := hJ hb
  have HR291hr64 := hJ hr64
  clear hb hr64
  obtain ⟨x292, hx292⟩ := nmz (w291.alloc (.cells #[.bool s64, .slice A64 n64 c64, .bool t64, .slice B64 m64 d64] 35))
  have HB292 := hJ (show Below w291.heap.size w291 x292 by rw [← hx292]; exact ((Below.refl _ _).alloc (Nat.le_refl _) _))
  have HQ292x0 := hJ (show BX 35 x292 w291.heap.size #[.bool s64, .slice A64 n64 c64, .bool t64, .slice B64 m64 d64] by rw [← hx292]; exact (BX.at rfl))
  have HG292x0 := hJ (show w291.heap.size ≤ w291.heap.size by omega)
  have HL292x0 := hJ (show w291.heap.size < x292.heap.size from HQ292x0.out.lt)
  have HC28_37 := hJ (bt (bt (bt (bt HC28_33.out HB281.out) HB282.out) HB291.out) HB292.out)
  have HQ6x0w37 := hJ (BX.new HQ6x0w28.out HC28_37.out)
  obtain ⟨cl293, cl294, cl295, cl296⟩ := HQ6x0w37.out.c4 0 1 2 3 rfl rfl rfl rfl
  have HC35_37 := hJ (bt HB291.out HB292.out)
  have HQ9x0w37 := hJ (BX.new HQ9x0w35.out HC35_37.out)
  obtain ⟨cl297, cl298, cl299, cl300⟩ := HQ9x0w37.out.c4 0 1 2 3 rfl rfl rfl rfl
  have hv := vl_mul (vl_self HFR13.out.1.1 HFR13.out.2.1 HFR13.out.2.2) (vl_self HFR15.out.1.1 HFR15.out.2.1 HFR15.out.2.2) (by decide)
  obtain ⟨P65, hP⟩ := nmz (muP p13 q13 p15 q15)
  obtain ⟨Q65, hQ⟩ := nmz (muQ p13 q13 p15 q15)
  rw [hP, hQ] at hv
  have HCD65 := hJ hv.1
  have HVL65 := hJ (show Vl 4002 P65 Q65 (p13 * p15) (q13 * q15) from hv.2)
  have HNP65 := hJ hP
  have HNQ65 := hJ hQ
  clear hv hP hQ
  have HR5hr14w37 := hJ (PF.new HR5hr14w28.out HC28_37.out)
  have HR8hr16w37 := hJ (PF.new HR8hr16w35.out HC35_37.out)
  go_wp2_with fail
  clear hx292 cl293 cl294 cl295 cl296 cl297 cl298 cl299 cl300
  refine (fmul_any p13 q13 p15 q15 s14 t14 s16 t16 A14 B14 A16 B16 n14 c14 m14 d14 n16 c16 m16 d16 x292 HR5hr14w37.out HR8hr16w37.out HFR13.out.1.1.1 HFR15.out.1.1.1 HFR13.out.1.2.1 HFR13.out.1.2.2 HFR15.out.1.2.1 HFR15.out.1.2.2).mono ?_
  rw [HNP65.out, HNQ65.out, HCD65.out]
  rintro e w301 ⟨s66, A66, n66, c66, t66, B66, m66, d66, rfl, hr66, hb⟩
  have HB301 := hJ hb
  have HR301hr66 := hJ hr66
  clear hb hr66
  have HC30_38 := hJ (bt (bt (bt HC30_35.out HB291.out) HB292.out) HB301.out)
  have HQ253x0w38 := hJ (BX.new HQ253x0.out HC30_38.out)
  have fz302_0 := HQ253x0w38.out.frozen 0
  have fc302_0 := HQ253x0w38.out.cell 0 rfl
  have fz302_1 := HQ253x0w38.out.frozen 1
  have fc302_1 := HQ253x0w38.out.cell 1 rfl
  have fz302_2 := HQ253x0w38.out.frozen 2
  have fc302_2 := HQ253x0w38.out.cell 2 rfl
  have fz302_3 := HQ253x0w38.out.frozen 3
  have fc302_3 := HQ253x0w38.out.cell 3 rfl
  obtain ⟨x302, hx302⟩ := nmz (World.setCell (World.setCell (World.setCell (World.setCell w301 ⟨w252.heap.size, 0, none⟩ (.bool s66)) ⟨w252.heap.size, 1, none⟩ (.slice A66 n66 c66)) ⟨w252.heap.size, 2, none⟩ (.bool t66)) ⟨w252.heap.size, 3, none⟩ (.slice B66 m66 d66))
  have HE302 := hJ (show sto w301 w252.heap.size 0 [.bool s66, .slice A66 n66 c66, .bool t66, .slice B66 m66 d66] = x302 from hx302)
  have HQ302s := hJ (show BX 35 x302 w252.heap.size #[.bool s66, .slice A66 n66 c66, .bool t66, .slice B66 m66 d66] by rw [← HE302.out]; exact BX.put HQ253x0w38.out _ _)
  have HQ292x0w38 := hJ (BX.new HQ292x0.out HB301.out)
  have HC30_36 := hJ (bt HC30_35.out HB291.out)
  have HQ292x0w39 := hJ (show BX 35 x302 w291.heap.size #[.bool s64, .slice A64 n64 c64, .bool t64, .slice B64 m64 d64] by rw [← HE302.out]; exact BX.far HQ292x0w38.out (show w291.heap.size ≠ w252.heap.size by have h1 := HL253x0.out; have h2 := HG292x0.out; have h3 := (HC30_36.out).size; omega) _ _)
  obtain ⟨cl303, cl304, cl305, cl306⟩ := HQ292x0w39.out.c4 0 1 2 3 rfl rfl rfl rfl
  obtain ⟨cl307, cl308, cl309, cl310⟩ := HQ302s.out.c4 0 1 2 3 rfl rfl rfl rfl
  have hv := vl_add HVL63.out HVL65.out (by decide)
  obtain ⟨P67, hP⟩ := nmz (adP P63 Q63 P65 Q65)
  obtain ⟨Q67, hQ⟩ := nmz (adQ P63 Q63 P65 Q65)
  rw [hP, hQ] at hv
  have HCD67 := hJ hv.1
  have HVL67 := hJ (show Vl 8005 P67 Q67 ((p11 * p15) * (q13 * q15) + (p13 * p15) * (q11 * q15)) ((q11 * q15) * (q13 * q15)) from hv.2)
  have HNP67 := hJ hP
  have HNQ67 := hJ hQ
  clear hv hP hQ
  have HC36_38 := hJ (bt HB292.out HB301.out)
  have HR291hr64w38 := hJ (PF.new HR291hr64.out HC36_38.out)
  have HR291hr64w39 := hJ (show PF x302 s64 A64 n64 c64 t64 B64 m64 d64 P63 Q63 by rw [← HE302.out]; exact PF.sto HR291hr64w38.out HQ253x0w38.out rfl _ _)
  have HR301hr66w39 := hJ (show PF x302 s66 A66 n66 c66 t66 B66 m66 d66 P65 Q65 by rw [← HE302.out]; exact PF.sto HR301hr66.out HQ253x0w38.out rfl _ _)
  go_wp2_with fail
  clear fz302_0 fc302_0 fz302_1 fc302_1 fz302_2 fc302_2 fz302_3 fc302_3 hx302 cl303 cl304 cl305 cl306 cl307 cl308 cl309 cl310
  refine (fadd_any P63 Q63 P65 Q65 s64 t64 s66 t66 A64 B64 A66 B66 n64 c64 m64 d64 n66 c66 m66 d66 x302 HR291hr64w39.out HR301hr66w39.out (vl_fr HVL63.out (by decide)).1.1 (vl_fr HVL65.out (by decide)).1.1 (vl_fr HVL63.out (by decide)).2.1 (vl_fr HVL63.out (by decide)).2.2 (vl_fr HVL65.out (by decide)).2.1 (vl_fr HVL65.out (by decide)).2.2).mono ?_
  rw [HNP67.out, HNQ67.out, HCD67.out]
  rintro e w311 ⟨s68, A68, n68, c68, t68, B68, m68, d68, rfl, hr68, hb⟩
  have HB311 := hJ hb
  have HR311hr68 := hJ hr68
  clear hb hr68
  obtain ⟨x312, hx312⟩ := nmz (w311.alloc (.cells #[.bool s68, .slice A68 n68 c68, .bool t68, .slice B68 m68 d68] 35))
  have HB312 := hJ (show Below w311.heap.size w311 x312 by rw [← hx312]; exact ((Below.refl _ _).alloc (Nat.le_refl _) _))
  have HQ312x0 := hJ (show BX 35 x312 w311.heap.size #[.bool s68, .slice A68 n68 c68, .bool t68, .slice B68 m68 d68] by rw [← hx312]; exact (BX.at rfl))
  have HG312x0 := hJ (show w311.heap.size ≤ w311.heap.size by omega)
  have HL312x0 := hJ (show w311.heap.size < x312.heap.size from HQ312x0.out.lt)
  have HC35_38 := hJ (bt HC35_37.out HB301.out)
  have HQ282x0w38 := hJ (BX.new HQ282x0.out HC35_38.out)
  have HC30_34 := hJ (bt (bt (bt HB262.out HB263.out) HB272.out) HB281.out)
  have HQ282x0w39 := hJ (show BX 35 x302 w281.heap.size #[.bool s62, .slice A62 n62 c62, .bool t62, .slice B62 m62 d62] by rw [← HE302.out]; exact BX.far HQ282x0w38.out (show w281.heap.size ≠ w252.heap.size by have h1 := HL253x0.out; have h2 := HG282x0.out; have h3 := (HC30_34.out).size; omega) _ _)
  have HC39_41 := hJ (bt HB311.out HB312.out)
  have HQ282x0w41 := hJ (BX.new HQ282x0w39.out HC39_41.out)
  obtain ⟨cl313, cl314, cl315, cl316⟩ := HQ282x0w41.out.c4 0 1 2 3 rfl rfl rfl rfl
  obtain ⟨cl317, cl318, cl319, cl320⟩ := HQ312x0.out.c4 0 1 2 3 rfl rfl rfl rfl
  have HEQ69 := hJ (vl_eq HVL61.out HVL67.out (fe8 p11 q11 p13 q13 p15 q15))
  have HC34_38 := hJ (bt (bt (bt HB282.out HB291.out) HB292.out) HB301.out)
  have HR281hr62w38 := hJ (PF.new HR281hr62.out HC34_38.out)
  have HR281hr62w39 := hJ (show PF x302 s62 A62 n62 c62 t62 B62 m62 d62 P61 Q61 by rw [← HE302.out]; exact PF.sto HR281hr62w38.out HQ253x0w38.out rfl _ _)
  have HR281hr62w41 := hJ (PF.new HR281hr62w39.out HC39_41.out)
  have HR311hr68w41 := hJ (PF.new HR311hr68.out HB312.out)
  go_wp2_with fail
  clear hx312 cl313 cl314 cl315 cl316 cl317 cl318 cl319 cl320
  refine (l4equal_any P61 Q61 P67 Q67 s62 t62 s68 t68 A62 B62 A68 B68 n62 c62 m62 d62 n68 c68 m68 d68 x312 HR281hr62w41.out HR311hr68w41.out (vl_fr HVL61.out (by decide)) (vl_fr HVL67.out (by decide))).mono ?_
  rw [HEQ69.out]
  rintro e w321 ⟨rfl, hb⟩
  have HB321 := hJ hb
  clear hb
  have HC23_29 := hJ (bt HC23_28.out HB252.out)
  have HC23_39 := hJ (show Below w214.heap.size w214 x302 by rw [← HE302.out]; exact below_sto (bt (bt (bt (bt (bt (bt (bt (bt (bt (bt HC23_28.out HB252.out) HB253.out) HB262.out) HB263.out) HB272.out) HB281.out) HB282.out) HB291.out) HB292.out) HB301.out) (Nat.le_trans (HC23_29.out).size HG253x0.out) _ _)
  have HC23_42 := hJ (bt (bt (bt HC23_39.out HB311.out) HB312.out) HB321.out)
  have HQ39x0w42 := hJ (BX.new HQ39x0w23.out HC23_42.out)
  obtain ⟨cl322, cl323, cl324, cl325⟩ := HQ39x0w42.out.c4 0 1 2 3 rfl rfl rfl rfl
  have HQ9x0w38 := hJ (BX.new HQ9x0w37.out HB301.out)
  have HC9_29 := hJ (bt (bt (bt HC9_26.out HB242.out) HB243.out) HB252.out)
  have HQ9x0w39 := hJ (show BX 35 x302 w8.heap.size #[.bool s16, .slice A16 n16 c16, .bool t16, .slice B16 m16 d16] by rw [← HE302.out]; exact BX.far HQ9x0w38.out (show w8.heap.size ≠ w252.heap.size by have h1 := HL9x0.out; have h2 := HG253x0.out; have h3 := (HC9_29.out).size; omega) _ _)
  have HC39_42 := hJ (bt HC39_41.out HB321.out)
  have HQ9x0w42 := hJ (BX.new HQ9x0w39.out HC39_42.out)
  obtain ⟨cl326, cl327, cl328, cl329⟩ := HQ9x0w42.out.c4 0 1 2 3 rfl rfl rfl rfl
  have hv := vl_mul HVL21.out (vl_self HFR15.out.1.1 HFR15.out.2.1 HFR15.out.2.2) (by decide)
  obtain ⟨P70, hP⟩ := nmz (muP P21 Q21 p15 q15)
  obtain ⟨Q70, hQ⟩ := nmz (muQ P21 Q21 p15 q15)
  rw [hP, hQ] at hv
  have HCD70 := hJ hv.1
  have HVL70 := hJ (show Vl 6003 P70 Q70 ((p11 * p13) * p15) ((q11 * q13) * q15) from hv.2)
  have HNP70 := hJ hP
  have HNQ70 := hJ hQ
  clear hv hP hQ
  have HR38hr22w42 := hJ (PF.new HR38hr22w23.out HC23_42.out)
  have HR8hr16w38 := hJ (PF.new HR8hr16w37.out HB301.out)
  have HR8hr16w39 := hJ (show PF x302 s16 A16 n16 c16 t16 B16 m16 d16 p15 q15 by rw [← HE302.out]; exact PF.sto HR8hr16w38.out HQ253x0w38.out rfl _ _)
  have HR8hr16w42 := hJ (PF.new HR8hr16w39.out HC39_42.out)
  go_wp2_with fail
  clear cl322 cl323 cl324 cl325 cl326 cl327 cl328 cl329
  refine (fmul_any P21 Q21 p15 q15 s22 t22 s16 t16 A22 B22 A16 B16 n22 c22 m22 d22 n16 c16 m16 d16 w321 HR38hr22w42.out HR8hr16w42.out (vl_fr HVL21.out (by decide)).1.1 HFR15.out.1.1.1 (vl_fr HVL21.out (by decide)).2.1 (vl_fr HVL21.out (by decide)).2.2 HFR15.out.1.2.1 HFR15.out.1.2.2).mono ?_
  rw [HNP70.out, HNQ70.out, HCD70.out]
  rintro e w330 ⟨s71, A71, n71, c71, t71, B71, m71, d71, rfl, hr71, hb⟩
  have HB330 := hJ hb
  have HR330hr71 := hJ hr71
  clear hb hr71
  obtain ⟨x331, hx331⟩ := nmz (w330.alloc (.cells #[.bool s71, .slice A71 n71 c71, .bool t71, .slice B71 m71 d71] 35))
  have HB331 := hJ (show Below w330.heap.size w330 x331 by rw [← hx331]; exact ((Below.refl _ _).alloc (Nat.le_refl _) _))
  have HQ331x0 := hJ (show BX 35 x331 w330.heap.size #[.bool s71, .slice A71 n71 c71, .bool t71, .slice B71 m71 d71] by rw [← hx331]; exact (BX.at rfl))
  have HG331x0 := hJ (show w330.heap.size ≤ w330.heap.size by omega)
  have HL331x0 := hJ (show w330.heap.size < x331.heap.size from HQ331x0.out.lt)
  have HQ3x0w38 := hJ (BX.new HQ3x0w35.out HC35_38.out)
  have HC3_29 := hJ (bt (bt (bt (bt (bt (bt (bt (bt (bt (bt (bt (bt (bt (bt (bt (bt (bt (bt (bt (bt HC3_9.out HB18.out) HB19.out) HB28.out) HB29.out) HB38.out) HB39.out) HB48.out) HB49.out) HB58.out) HB67.out) HB76.out) HB77.out) HB86.out) HB214.out) HB223.out) HB224.out) HB233.out) HB242.out) HB243.out) HB252.out)
  have HQ3x0w39 := hJ (show BX 35 x302 w2.heap.size #[.bool s12, .slice A12 n12 c12, .bool t12, .slice B12 m12 d12] by rw [← HE302.out]; exact BX.far HQ3x0w38.out (show w2.heap.size ≠ w252.heap.size by have h1 := HL3x0.out; have h2 := HG253x0.out; have h3 := (HC3_29.out).size; omega) _ _)
  have HC39_44 := hJ (bt (bt HC39_42.out HB330.out) HB331.out)
  have HQ3x0w44 := hJ (BX.new HQ3x0w39.out HC39_44.out)
  obtain ⟨cl332, cl333, cl334, cl335⟩ := HQ3x0w44.out.c4 0 1 2 3 rfl rfl rfl rfl
  have HQ302sw44 := hJ (BX.new HQ302s.out HC39_44.out)
  obtain ⟨cl336, cl337, cl338, cl339⟩ := HQ302sw44.out.c4 0 1 2 3 rfl rfl rfl rfl
  have hv := vl_mul (vl_self HFR11.out.1.1 HFR11.out.2.1 HFR11.out.2.2) HVL65.out (by decide)
  obtain ⟨P72, hP⟩ := nmz (muP p11 q11 P65 Q65)
  obtain ⟨Q72, hQ⟩ := nmz (muQ p11 q11 P65 Q65)
  rw [hP, hQ] at hv
  have HCD72 := hJ hv.1
  have HVL72 := hJ (show Vl 6003 P72 Q72 (p11 * (p13 * p15)) (q11 * (q13 * q15)) from hv.2)
  have HNP72 := hJ hP
  have HNQ72 := hJ hQ
  clear hv hP hQ
  have HR2hr12w38 := hJ (PF.new HR2hr12w35.out HC35_38.out)
  have HR2hr12w39 := hJ (show PF x302 s12 A12 n12 c12 t12 B12 m12 d12 p11 q11 by rw [← HE302.out]; exact PF.sto HR2hr12w38.out HQ253x0w38.out rfl _ _)
  have HR2hr12w44 := hJ (PF.new HR2hr12w39.out HC39_44.out)
  have HR301hr66w44 := hJ (PF.new HR301hr66w39.out HC39_44.out)
  go_wp2_with fail
  clear hx331 cl332 cl333 cl334 cl335 cl336 cl337 cl338 cl339
  refine (fmul_any p11 q11 P65 Q65 s12 t12 s66 t66 A12 B12 A66 B66 n12 c12 m12 d12 n66 c66 m66 d66 x331 HR2hr12w44.out HR301hr66w44.out HFR11.out.1.1.1 (vl_fr HVL65.out (by decide)).1.1 HFR11.out.1.2.1 HFR11.out.1.2.2 (vl_fr HVL65.out (by decide)).2.1 (vl_fr HVL65.out (by decide)).2.2).mono ?_
  rw [HNP72.out, HNQ72.out, HCD72.out]
  rintro e w340 ⟨s73, A73, n73, c73, t73, B73, m73, d73, rfl, hr73, hb⟩
  have HB340 := hJ hb
  have HR340hr73 := hJ hr73
  clear hb hr73
  have HC32_38 := hJ (bt (bt (bt (bt (bt HB272.out HB281.out) HB282.out) HB291.out) HB292.out) HB301.out)
  have HQ243x0w38 := hJ (BX.new HQ243x0w32.out HC32_38.out)
  have HQ243x0w39 := hJ (show BX 35 x302 w242.heap.size #[.bool s55, .slice A55 n55 c55, .bool t55, .slice B55 m55 d55] by rw [← HE302.out]; exact BX.far HQ243x0w38.out (show w242.heap.size ≠ w252.heap.size by have h1 := HL243x0.out; have h2 := HG253x0.out; have h3 := (HB252.out).size; omega) _ _)
  have HC39_45 := hJ (bt HC39_44.out HB340.out)
  have HQ243x0w45 := hJ (BX.new HQ243x0w39.out HC39_45.out)
  have fz341_0 := HQ243x0w45.out.frozen 0
  have fc341_0 := HQ243x0w45.out.cell 0 rfl
  have fz341_1 := HQ243x0w45.out.frozen 1
  have fc341_1 := HQ243x0w45.out.cell 1 rfl
  have fz341_2 := HQ243x0w45.out.frozen 2
  have fc341_2 := HQ243x0w45.out.cell 2 rfl
  have fz341_3 := HQ243x0w45.out.frozen 3
  have fc341_3 := HQ243x0w45.out.cell 3 rfl
  obtain ⟨x341, hx341⟩ := nmz (World.setCell (World.setCell (World.setCell (World.setCell w340 ⟨w242.heap.size, 0, none⟩ (.bool s73)) ⟨w242.heap.size, 1, none⟩ (.slice A73 n73 c73)) ⟨w242.heap.size, 2, none⟩ (.bool t73)) ⟨w242.heap.size, 3, none⟩ (.slice B73 m73 d73))
  have HE341 := hJ (show sto w340 w242.heap.size 0 [.bool s73, .slice A73 n73 c73, .bool t73, .slice B73 m73 d73] = x341 from hx341)
  have HQ341s := hJ (show BX 35 x341 w242.heap.size #[.bool s73, .slice A73 n73 c73, .bool t73, .slice B73 m73 d73] by rw [← HE341.out]; exact BX.put HQ243x0w45.out _ _)
  have HQ331x0w45 := hJ (BX.new HQ331x0.out HB340.out)
  have HC28_39 := hJ (show Below x243.heap.size x243 x302 by rw [← HE302.out]; exact below_sto (bt HC28_37.out HB301.out) (Nat.le_trans (HB252.out).size HG253x0.out) _ _)
  have HC28_43 := hJ (bt (bt (bt (bt HC28_39.out HB311.out) HB312.out) HB321.out) HB330.out)
  have HQ331x0w46 := hJ (show BX 35 x341 w330.heap.size #[.bool s71, .slice A71 n71 c71, .bool t71, .slice B71 m71 d71] by rw [← HE341.out]; exact BX.far HQ331x0w45.out (show w330.heap.size ≠ w242.heap.size by have h1 := HL243x0.out; have h2 := HG331x0.out; have h3 := (HC28_43.out).size; omega) _ _)
  obtain ⟨cl342, cl343, cl344, cl345⟩ := HQ331x0w46.out.c4 0 1 2 3 rfl rfl rfl rfl
  obtain ⟨cl346, cl347, cl348, cl349⟩ := HQ341s.out.c4 0 1 2 3 rfl rfl rfl rfl
  have HEQ74 := hJ (vl_eq HVL70.out HVL72.out (fe9 p11 q11 p13 q13 p15 q15))
  have HC43_45 := hJ (bt HB331.out HB340.out)
  have HR330hr71w45 := hJ (PF.new HR330hr71.out HC43_45.out)
  have HR330hr71w46 := hJ (show PF x341 s71 A71 n71 c71 t71 B71 m71 d71 P70 Q70 by rw [← HE341.out]; exact PF.sto HR330hr71w45.out HQ243x0w45.out rfl _ _)
  have HR340hr73w46 := hJ (show PF x341 s73 A73 n73 c73 t73 B73 m73 d73 P72 Q72 by rw [← HE341.out]; exact PF.sto HR340hr73.out HQ243x0w45.out rfl _ _)
  go_wp2_with fail
  clear fz341_0 fc341_0 fz341_1 fc341_1 fz341_2 fc341_2 fz341_3 fc341_3 hx341 cl342 cl343 cl344 cl345 cl346 cl347 cl348 cl349
  refine (l4equal_any P70 Q70 P72 Q72 s71 t71 s73 t73 A71 B71 A73 B73 n71 c71 m71 d71 n73 c73 m73 d73 x341 HR330hr71w46.out HR340hr73w46.out (vl_fr HVL70.out (by decide)) (vl_fr HVL72.out (by decide))).mono ?_
  rw [HEQ74.out]
  rintro e w350 ⟨rfl, hb⟩
  have HB350 := hJ hb
  clear hb
  go_wp2_with fail
  refine (l4lives_any w350).mono ?_
  rintro e w351 ⟨rfl, hb⟩
  have HB351 := hJ hb
  clear hb
  have HC0_29 := hJ (bt (bt (bt (bt (bt (bt (bt (bt (bt (bt (bt (bt (bt (bt (bt (bt (bt (bt (bt (bt (bt (bt (bt (bt (bt (bt HC0_3.out HB4.out) HB5.out) HB6.out) HB7.out) HB8.out) HB9.out) HB18.out) HB19.out) HB28.out) HB29.out) HB38.out) HB39.out) HB48.out) HB49.out) HB58.out) HB67.out) HB76.out) HB77.out) HB86.out) HB214.out) HB223.out) HB224.out) HB233.out) HB242.out) HB243.out) HB252.out)
  have HC0_39 := hJ (show Below w.heap.size w x302 by rw [← HE302.out]; exact below_sto (bt (bt (bt (bt (bt (bt (bt (bt (bt (bt (bt (bt (bt (bt (bt (bt (bt (bt (bt (bt (bt (bt (bt (bt (bt (bt (bt (bt (bt (bt (bt (bt (bt (bt (bt HC0_3.out HB4.out) HB5.out) HB6.out) HB7.out) HB8.out) HB9.out) HB18.out) HB19.out) HB28.out) HB29.out) HB38.out) HB39.out) HB48.out) HB49.out) HB58.out) HB67.out) HB76.out) HB77.out) HB86.out) HB214.out) HB223.out) HB224.out) HB233.out) HB242.out) HB243.out) HB252.out) HB253.out) HB262.out) HB263.out) HB272.out) HB281.out) HB282.out) HB291.out) HB292.out) HB301.out) (Nat.le_trans (HC0_29.out).size HG253x0.out) _ _)
  have HC0_27 := hJ (bt (bt (bt (bt (bt (bt (bt (bt (bt (bt (bt (bt (bt (bt (bt (bt (bt (bt (bt (bt (bt (bt (bt (bt HC0_3.out HB4.out) HB5.out) HB6.out) HB7.out) HB8.out) HB9.out) HB18.out) HB19.out) HB28.out) HB29.out) HB38.out) HB39.out) HB48.out) HB49.out) HB58.out) HB67.out) HB76.out) HB77.out) HB86.out) HB214.out) HB223.out) HB224.out) HB233.out) HB242.out)
  have HC0_46 := hJ (show Below w.heap.size w x341 by rw [← HE341.out]; exact below_sto (bt (bt (bt (bt (bt (bt HC0_39.out HB311.out) HB312.out) HB321.out) HB330.out) HB331.out) HB340.out) (Nat.le_trans (HC0_27.out).size HG243x0.out) _ _)
  have HC0_48 := hJ (bt (bt HC0_46.out HB350.out) HB351.out)
  go_wp2
  go_ret
  exact ⟨rfl, HC0_48.out⟩
theorem fracField_law (a0 : Option Addr) (len0 cap0 : Nat) (z0 : List Int) (w : World) (w0 : RowI .i64 w a0 len0 cap0 z0) :
  Calls Tryz.prog 7 #[.slice a0 len0 cap0] w fun e w' => e = .returned (.bool true) ∧ Below w.heap.size w w' := by
 obtain ⟨ls, h1, h2, h3, h4⟩ := w0.open_
 exact fracField_walk a0 len0 cap0 ls w ⟨h4, by rw [h1]; exact h2, h3⟩
end Go.Proofs.YtbhnaffbgggabaaGreat
