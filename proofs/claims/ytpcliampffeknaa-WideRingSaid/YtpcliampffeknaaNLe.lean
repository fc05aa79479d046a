/- The walk of WideRing: the law returns true for every input; what lay lies as it lay. -/
import Derived.Test.YtpcliampffeknaaNLh
namespace Go.Proofs.Ytpcliampffeknaa
open Go.RowKit
attribute [local go_sem ↓] Go.wp_at_zero Go.wp_at_succ
theorem ring_a (x y z : Int) : (x + y) * z = x * z + z * y := by rw [Int.add_mul, Int.mul_comm y z]
set_option maxRecDepth 100000 in
set_option maxHeartbeats 6400000 in
theorem wideRing_walk (xs : List Int) (A : Option Addr) (ln c : Nat) (w : World) (hg : Got w (.slice A ln c) xs) :
    Calls Try.prog 8 #[.slice A ln c] w fun e w' => e = .returned (.bool true) ∧ Below w.heap.size w w' := by
  have HG0 := Lib.hid hg
  clear hg
  go_enter Try.func8, Try.ntmps8
  go_wp2_with fail
  refine (number_any (.slice A ln c) xs 0 w HG0.out (by decide)).mono ?_
  rintro e w1 ⟨x, s1, A1, n1, c1, rfl, hr1, hx1, hb1⟩
  have HB1 := Lib.hid hb1
  have HR1 := Lib.hid hr1
  have HXx := Lib.hid (numB2 hx1)
  have hn1 : n1 ≤ 240 := B2.rlen hr1 (numB2 hx1)
  clear hr1 hb1 hx1
  have HG_1 := Lib.hid (HG0.out.new HB1.out)
  have HW_1 := Lib.hid (HB1.out)
  clear HG0 HB1
  go_wp2_with fail
  refine (wider_any x s1 A1 n1 c1 w1 HR1.out (by omega) (B2.lim HXx.out (by decide))).mono ?_
  rintro e w2 ⟨s2, A2, n2, c2, rfl, hr2, hb2⟩
  obtain ⟨x2, hx2⟩ : ∃ z, w2.alloc (.cells #[.bool s2, .slice A2 n2 c2] 33) = z := ⟨_, rfl⟩
  have HB2 := Lib.hid (show Below w1.heap.size w1 x2 by rw [← hx2]; exact hb2.alloc hb2.size _)
  have HQ2 := Lib.hid (show P2 33 x2 w2.heap.size (.bool s2) (.slice A2 n2 c2) by rw [← hx2]; exact P2.lit _ _ _ _)
  have HR2 := Lib.hid (show PI x2 s2 A2 n2 c2 (x) by rw [← hx2]; exact PIo.new hr2 ((Below.refl _ _).alloc (Nat.le_refl _) _))
  have hn2 : n2 ≤ 240 := B2.plen hr2 HXx.out
  clear hr2 hb2
  have HR1_2 := Lib.hid (HR1.out.new HB2.out)
  have HG_2 := Lib.hid (HG_1.out.new HB2.out)
  have HW_2 := Lib.hid (bt HW_1.out HB2.out)
  clear HR1 HG_1 HW_1 HB2
  clear HR1_2
  go_wp2_with fail
  refine (number_any (.slice A ln c) xs 6 x2 HG_2.out (by decide)).mono ?_
  rintro e w3 ⟨y, s3, A3, n3, c3, rfl, hr3, hx3, hb3⟩
  have HB3 := Lib.hid hb3
  have HR3 := Lib.hid hr3
  have HXy := Lib.hid (numB2 hx3)
  have hn3 : n3 ≤ 240 := B2.rlen hr3 (numB2 hx3)
  clear hr3 hb3 hx3
  have HQ2_3 := Lib.hid (HQ2.out.new HB3.out)
  have HR2_3 := Lib.hid (PIo.new HR2.out HB3.out)
  have HG_3 := Lib.hid (HG_2.out.new HB3.out)
  have HW_3 := Lib.hid (bt HW_2.out HB3.out)
  clear HQ2 HR2 HG_2 HW_2 hx2 HB3
  go_wp2_with fail
  refine (wider_any y s3 A3 n3 c3 w3 HR3.out (by omega) (B2.lim HXy.out (by decide))).mono ?_
  rintro e w4 ⟨s4, A4, n4, c4, rfl, hr4, hb4⟩
  obtain ⟨x4, hx4⟩ : ∃ z, w4.alloc (.cells #[.bool s4, .slice A4 n4 c4] 33) = z := ⟨_, rfl⟩
  have HB4 := Lib.hid (show Below w3.heap.size w3 x4 by rw [← hx4]; exact hb4.alloc hb4.size _)
  have HQ4 := Lib.hid (show P2 33 x4 w4.heap.size (.bool s4) (.slice A4 n4 c4) by rw [← hx4]; exact P2.lit _ _ _ _)
  have HR4 := Lib.hid (show PI x4 s4 A4 n4 c4 (y) by rw [← hx4]; exact PIo.new hr4 ((Below.refl _ _).alloc (Nat.le_refl _) _))
  have hn4 : n4 ≤ 240 := B2.plen hr4 HXy.out
  clear hr4 hb4
  have HQ2_4 := Lib.hid (HQ2_3.out.new HB4.out)
  have HR2_4 := Lib.hid (PIo.new HR2_3.out HB4.out)
  have HR3_4 := Lib.hid (HR3.out.new HB4.out)
  have HG_4 := Lib.hid (HG_3.out.new HB4.out)
  have HW_4 := Lib.hid (bt HW_3.out HB4.out)
  clear HQ2_3 HR2_3 HR3 HG_3 HW_3 HB4
  clear HR3_4
  go_wp2_with fail
  refine (number_any (.slice A ln c) xs 12 x4 HG_4.out (by decide)).mono ?_
  rintro e w5 ⟨z, s5, A5, n5, c5, rfl, hr5, hx5, hb5⟩
  have HB5 := Lib.hid hb5
  have HR5 := Lib.hid hr5
  have HXz := Lib.hid (numB2 hx5)
  have hn5 : n5 ≤ 240 := B2.rlen hr5 (numB2 hx5)
  clear hr5 hb5 hx5
  have HQ2_5 := Lib.hid (HQ2_4.out.new HB5.out)
  have HR2_5 := Lib.hid (PIo.new HR2_4.out HB5.out)
  have HQ4_5 := Lib.hid (HQ4.out.new HB5.out)
  have HR4_5 := Lib.hid (PIo.new HR4.out HB5.out)
  have HG_5 := Lib.hid (HG_4.out.new HB5.out)
  have HW_5 := Lib.hid (bt HW_4.out HB5.out)
  clear HQ2_4 HR2_4 HQ4 HR4 HG_4 HW_4 hx4 HB5
  go_wp2_with fail
  refine (wider_any z s5 A5 n5 c5 w5 HR5.out (by omega) (B2.lim HXz.out (by decide))).mono ?_
  rintro e w6 ⟨s6, A6, n6, c6, rfl, hr6, hb6⟩
  obtain ⟨x6, hx6⟩ : ∃ z, w6.alloc (.cells #[.bool s6, .slice A6 n6 c6] 33) = z := ⟨_, rfl⟩
  have HB6 := Lib.hid (show Below w5.heap.size w5 x6 by rw [← hx6]; exact hb6.alloc hb6.size _)
  have HQ6 := Lib.hid (show P2 33 x6 w6.heap.size (.bool s6) (.slice A6 n6 c6) by rw [← hx6]; exact P2.lit _ _ _ _)
  have HR6 := Lib.hid (show PI x6 s6 A6 n6 c6 (z) by rw [← hx6]; exact PIo.new hr6 ((Below.refl _ _).alloc (Nat.le_refl _) _))
  have hn6 : n6 ≤ 240 := B2.plen hr6 HXz.out
  clear hr6 hb6
  have HQ2_6 := Lib.hid (HQ2_5.out.new HB6.out)
  have HR2_6 := Lib.hid (PIo.new HR2_5.out HB6.out)
  have HQ4_6 := Lib.hid (HQ4_5.out.new HB6.out)
  have HR4_6 := Lib.hid (PIo.new HR4_5.out HB6.out)
  have HR5_6 := Lib.hid (HR5.out.new HB6.out)
  have HG_6 := Lib.hid (HG_5.out.new HB6.out)
  have HW_6 := Lib.hid (bt HW_5.out HB6.out)
  clear HQ2_5 HR2_5 HQ4_5 HR4_5 HR5 HG_5 HW_5 HB6
  clear HR5_6
  clear HG_6
  have HBa := Lib.hid (show (x + y).natAbs < B2 (241) from B2.add HXx.out HXy.out)
  have HBb := Lib.hid (show (y + x).natAbs < B2 (241) from B2.add HXy.out HXx.out)
  have HBc := Lib.hid (show ((x + y) * z).natAbs < B2 (241 + 240) from B2.mul HBa.out HXz.out)
  have HBd := Lib.hid (show (x * z).natAbs < B2 (240 + 240) from B2.mul HXx.out HXz.out)
  have HBi := Lib.hid (show (z * y).natAbs < B2 (240 + 240) from B2.mul HXz.out HXy.out)
  have HBk := Lib.hid (show (x * z + z * y).natAbs < B2 (240 + 240 + 1) from B2.add HBd.out HBi.out)
  have HBn := Lib.hid (show (x + y - y).natAbs < B2 (242) from B2.sub HBa.out (B2.le HXy.out (show 240 ≤ 241 by decide)))
  have HI7 := Lib.hid (in_lim (B2.lim HBa.out (by decide)))
  obtain ⟨a2_7, b2_7⟩ := HQ2_6.out.cells
  obtain ⟨a4_7, b4_7⟩ := HQ4_6.out.cells
  go_wp2_with fail
  refine (padd_any (x) (y) s2 s4 A2 A4 n2 c2 n4 c4 x6 HR2_6.out HR4_6.out (by omega) (by omega) (B2.lim HXx.out (by decide)) (B2.lim HXy.out (by decide))).mono ?_
  rw [HI7.out.1, HI7.out.2]
  clear HI7
  rintro e w7 ⟨s7, A7, n7, c7, rfl, hr7, hb7⟩
  obtain ⟨x7, hx7⟩ : ∃ z, w7.alloc (.cells #[.bool s7, .slice A7 n7 c7] 33) = z := ⟨_, rfl⟩
  have HB7 := Lib.hid (show Below x6.heap.size x6 x7 by rw [← hx7]; exact hb7.alloc hb7.size _)
  have HQ7 := Lib.hid (show P2 33 x7 w7.heap.size (.bool s7) (.slice A7 n7 c7) by rw [← hx7]; exact P2.lit _ _ _ _)
  have HR7 := Lib.hid (show PI x7 s7 A7 n7 c7 (x + y) by rw [← hx7]; exact PIo.new hr7 ((Below.refl _ _).alloc (Nat.le_refl _) _))
  have hn7 : n7 ≤ 241 := B2.plen hr7 HBa.out
  clear hr7 hb7
  have HQ2_7 := Lib.hid (HQ2_6.out.new HB7.out)
  have HR2_7 := Lib.hid (PIo.new HR2_6.out HB7.out)
  have HQ4_7 := Lib.hid (HQ4_6.out.new HB7.out)
  have HR4_7 := Lib.hid (PIo.new HR4_6.out HB7.out)
  have HQ6_7 := Lib.hid (HQ6.out.new HB7.out)
  have HR6_7 := Lib.hid (PIo.new HR6.out HB7.out)
  have HW_7 := Lib.hid (bt HW_6.out HB7.out)
  clear HQ2_6 HR2_6 HQ4_6 HR4_6 HQ6 HR6 HW_6 hx6 a2_7 b2_7 a4_7 b4_7 HB7
  have HI8 := Lib.hid (in_lim (B2.lim HBb.out (by decide)))
  obtain ⟨a4_8, b4_8⟩ := HQ4_7.out.cells
  obtain ⟨a2_8, b2_8⟩ := HQ2_7.out.cells
  go_wp2_with fail
  refine (padd_any (y) (x) s4 s2 A4 A2 n4 c4 n2 c2 x7 HR4_7.out HR2_7.out (by omega) (by omega) (B2.lim HXy.out (by decide)) (B2.lim HXx.out (by decide))).mono ?_
  rw [HI8.out.1, HI8.out.2]
  clear HI8
  rintro e w8 ⟨s8, A8, n8, c8, rfl, hr8, hb8⟩
  obtain ⟨x8, hx8⟩ : ∃ z, w8.alloc (.cells #[.bool s8, .slice A8 n8 c8] 33) = z := ⟨_, rfl⟩
  have HB8 := Lib.hid (show Below x7.heap.size x7 x8 by rw [← hx8]; exact hb8.alloc hb8.size _)
  have HQ8 := Lib.hid (show P2 33 x8 w8.heap.size (.bool s8) (.slice A8 n8 c8) by rw [← hx8]; exact P2.lit _ _ _ _)
  have HR8 := Lib.hid (show PI x8 s8 A8 n8 c8 (y + x) by rw [← hx8]; exact PIo.new hr8 ((Below.refl _ _).alloc (Nat.le_refl _) _))
  have hn8 : n8 ≤ 241 := B2.plen hr8 HBb.out
  clear hr8 hb8
  have HQ2_8 := Lib.hid (HQ2_7.out.new HB8.out)
  have HR2_8 := Lib.hid (PIo.new HR2_7.out HB8.out)
  have HQ4_8 := Lib.hid (HQ4_7.out.new HB8.out)
  have HR4_8 := Lib.hid (PIo.new HR4_7.out HB8.out)
  have HQ6_8 := Lib.hid (HQ6_7.out.new HB8.out)
  have HR6_8 := Lib.hid (PIo.new HR6_7.out HB8.out)
  have HQ7_8 := Lib.hid (HQ7.out.new HB8.out)
  have HR7_8 := Lib.hid (PIo.new HR7.out HB8.out)
  have HW_8 := Lib.hid (bt HW_7.out HB8.out)
  clear HQ2_7 HR2_7 HQ4_7 HR4_7 HQ6_7 HR6_7 HQ7 HR7 HW_7 hx7 a4_8 b4_8 a2_8 b2_8 HB8
  have HI9 := Lib.hid (in_lim (B2.lim HBc.out (by decide)))
  obtain ⟨a7_9, b7_9⟩ := HQ7_8.out.cells
  obtain ⟨a6_9, b6_9⟩ := HQ6_8.out.cells
  go_wp2_with fail
  refine (pmul_any (x + y) (z) s7 s6 A7 A6 n7 c7 n6 c6 x8 HR7_8.out HR6_8.out (by omega) (by omega)).mono ?_
  rw [HI9.out.1, HI9.out.2]
  clear HI9
  rintro e w9 ⟨s9, A9, n9, c9, rfl, hr9, hb9⟩
  obtain ⟨x9, hx9⟩ : ∃ z, w9.alloc (.cells #[.bool s9, .slice A9 n9 c9] 33) = z := ⟨_, rfl⟩
  have HB9 := Lib.hid (show Below x8.heap.size x8 x9 by rw [← hx9]; exact hb9.alloc hb9.size _)
  have HQ9 := Lib.hid (show P2 33 x9 w9.heap.size (.bool s9) (.slice A9 n9 c9) by rw [← hx9]; exact P2.lit _ _ _ _)
  have HR9 := Lib.hid (show PI x9 s9 A9 n9 c9 ((x + y) * z) by rw [← hx9]; exact PIo.new hr9 ((Below.refl _ _).alloc (Nat.le_refl _) _))
  have hn9 : n9 ≤ 241 + 240 := B2.plen hr9 HBc.out
  clear hr9 hb9
  have HQ2_9 := Lib.hid (HQ2_8.out.new HB9.out)
  have HR2_9 := Lib.hid (PIo.new HR2_8.out HB9.out)
  have HQ4_9 := Lib.hid (HQ4_8.out.new HB9.out)
  have HR4_9 := Lib.hid (PIo.new HR4_8.out HB9.out)
  have HQ6_9 := Lib.hid (HQ6_8.out.new HB9.out)
  have HR6_9 := Lib.hid (PIo.new HR6_8.out HB9.out)
  have HQ7_9 := Lib.hid (HQ7_8.out.new HB9.out)
  have HR7_9 := Lib.hid (PIo.new HR7_8.out HB9.out)
  have HQ8_9 := Lib.hid (HQ8.out.new HB9.out)
  have HR8_9 := Lib.hid (PIo.new HR8.out HB9.out)
  have HW_9 := Lib.hid (bt HW_8.out HB9.out)
  clear HQ2_8 HR2_8 HQ4_8 HR4_8 HQ6_8 HR6_8 HQ7_8 HR7_8 HQ8 HR8 HW_8 hx8 a7_9 b7_9 a6_9 b6_9 HB9
  have HI10 := Lib.hid (in_lim (B2.lim HBd.out (by decide)))
  obtain ⟨a2_10, b2_10⟩ := HQ2_9.out.cells
  obtain ⟨a6_10, b6_10⟩ := HQ6_9.out.cells
  go_wp2_with fail
  refine (pmul_any (x) (z) s2 s6 A2 A6 n2 c2 n6 c6 x9 HR2_9.out HR6_9.out (by omega) (by omega)).mono ?_
  rw [HI10.out.1, HI10.out.2]
  clear HI10
  rintro e w10 ⟨s10, A10, n10, c10, rfl, hr10, hb10⟩
  obtain ⟨x10, hx10⟩ : ∃ z, w10.alloc (.cells #[.bool s10, .slice A10 n10 c10] 33) = z := ⟨_, rfl⟩
  have HB10 := Lib.hid (show Below x9.heap.size x9 x10 by rw [← hx10]; exact hb10.alloc hb10.size _)
  have HQ10 := Lib.hid (show P2 33 x10 w10.heap.size (.bool s10) (.slice A10 n10 c10) by rw [← hx10]; exact P2.lit _ _ _ _)
  have HR10 := Lib.hid (show PI x10 s10 A10 n10 c10 (x * z) by rw [← hx10]; exact PIo.new hr10 ((Below.refl _ _).alloc (Nat.le_refl _) _))
  have hn10 : n10 ≤ 240 + 240 := B2.plen hr10 HBd.out
  clear hr10 hb10
  have HQ2_10 := Lib.hid (HQ2_9.out.new HB10.out)
  have HR2_10 := Lib.hid (PIo.new HR2_9.out HB10.out)
  have HQ4_10 := Lib.hid (HQ4_9.out.new HB10.out)
  have HR4_10 := Lib.hid (PIo.new HR4_9.out HB10.out)
  have HQ6_10 := Lib.hid (HQ6_9.out.new HB10.out)
  have HR6_10 := Lib.hid (PIo.new HR6_9.out HB10.out)
  have HQ7_10 := Lib.hid (HQ7_9.out.new HB10.out)
  have HR7_10 := Lib.hid (PIo.new HR7_9.out HB10.out)
  have HQ8_10 := Lib.hid (HQ8_9.out.new HB10.out)
  have HR8_10 := Lib.hid (PIo.new HR8_9.out HB10.out)
  have HQ9_10 := Lib.hid (HQ9.out.new HB10.out)
  have HR9_10 := Lib.hid (PIo.new HR9.out HB10.out)
  have HW_10 := Lib.hid (bt HW_9.out HB10.out)
  clear HQ2_9 HR2_9 HQ4_9 HR4_9 HQ6_9 HR6_9 HQ7_9 HR7_9 HQ8_9 HR8_9 HQ9 HR9 HW_9 hx9 a2_10 b2_10 a6_10 b6_10 HB10
  have HI11 := Lib.hid (in_lim (B2.lim HBi.out (by decide)))
  obtain ⟨a6_11, b6_11⟩ := HQ6_10.out.cells
  obtain ⟨a4_11, b4_11⟩ := HQ4_10.out.cells
  go_wp2_with fail
  refine (pmul_any (z) (y) s6 s4 A6 A4 n6 c6 n4 c4 x10 HR6_10.out HR4_10.out (by omega) (by omega)).mono ?_
  rw [HI11.out.1, HI11.out.2]
  clear HI11
  rintro e w11 ⟨s11, A11, n11, c11, rfl, hr11, hb11⟩
  obtain ⟨x11, hx11⟩ : ∃ z, w11.alloc (.cells #[.bool s11, .slice A11 n11 c11] 33) = z := ⟨_, rfl⟩
  have HB11 := Lib.hid (show Below x10.heap.size x10 x11 by rw [← hx11]; exact hb11.alloc hb11.size _)
  have HQ11 := Lib.hid (show P2 33 x11 w11.heap.size (.bool s11) (.slice A11 n11 c11) by rw [← hx11]; exact P2.lit _ _ _ _)
  have HR11 := Lib.hid (show PI x11 s11 A11 n11 c11 (z * y) by rw [← hx11]; exact PIo.new hr11 ((Below.refl _ _).alloc (Nat.le_refl _) _))
  have hn11 : n11 ≤ 240 + 240 := B2.plen hr11 HBi.out
  clear hr11 hb11
  have HQ2_11 := Lib.hid (HQ2_10.out.new HB11.out)
  have HR2_11 := Lib.hid (PIo.new HR2_10.out HB11.out)
  have HQ4_11 := Lib.hid (HQ4_10.out.new HB11.out)
  have HR4_11 := Lib.hid (PIo.new HR4_10.out HB11.out)
  have HQ6_11 := Lib.hid (HQ6_10.out.new HB11.out)
  have HR6_11 := Lib.hid (PIo.new HR6_10.out HB11.out)
  have HQ7_11 := Lib.hid (HQ7_10.out.new HB11.out)
  have HR7_11 := Lib.hid (PIo.new HR7_10.out HB11.out)
  have HQ8_11 := Lib.hid (HQ8_10.out.new HB11.out)
  have HR8_11 := Lib.hid (PIo.new HR8_10.out HB11.out)
  have HQ9_11 := Lib.hid (HQ9_10.out.new HB11.out)
  have HR9_11 := Lib.hid (PIo.new HR9_10.out HB11.out)
  have HQ10_11 := Lib.hid (HQ10.out.new HB11.out)
  have HR10_11 := Lib.hid (PIo.new HR10.out HB11.out)
  have HW_11 := Lib.hid (bt HW_10.out HB11.out)
  clear HQ2_10 HR2_10 HQ4_10 HR4_10 HQ6_10 HR6_10 HQ7_10 HR7_10 HQ8_10 HR8_10 HQ9_10 HR9_10 HQ10 HR10 HW_10 hx10 a6_11 b6_11 a4_11 b4_11 HB11
  have HI12 := Lib.hid (in_lim (B2.lim HBk.out (by decide)))
  obtain ⟨a10_12, b10_12⟩ := HQ10_11.out.cells
  obtain ⟨a11_12, b11_12⟩ := HQ11.out.cells
  go_wp2_with fail
  refine (padd_any (x * z) (z * y) s10 s11 A10 A11 n10 c10 n11 c11 x11 HR10_11.out HR11.out (by omega) (by omega) (B2.lim HBd.out (by decide)) (B2.lim HBi.out (by decide))).mono ?_
  rw [HI12.out.1, HI12.out.2]
  clear HI12
  rintro e w12 ⟨s12, A12, n12, c12, rfl, hr12, hb12⟩
  obtain ⟨x12, hx12⟩ : ∃ z, w12.alloc (.cells #[.bool s12, .slice A12 n12 c12] 33) = z := ⟨_, rfl⟩
  have HB12 := Lib.hid (show Below x11.heap.size x11 x12 by rw [← hx12]; exact hb12.alloc hb12.size _)
  have HQ12 := Lib.hid (show P2 33 x12 w12.heap.size (.bool s12) (.slice A12 n12 c12) by rw [← hx12]; exact P2.lit _ _ _ _)
  have HR12 := Lib.hid (show PI x12 s12 A12 n12 c12 (x * z + z * y) by rw [← hx12]; exact PIo.new hr12 ((Below.refl _ _).alloc (Nat.le_refl _) _))
  have hn12 : n12 ≤ 240 + 240 + 1 := B2.plen hr12 HBk.out
  clear hr12 hb12
  have HQ2_12 := Lib.hid (HQ2_11.out.new HB12.out)
  have HR2_12 := Lib.hid (PIo.new HR2_11.out HB12.out)
  have HQ4_12 := Lib.hid (HQ4_11.out.new HB12.out)
  have HR4_12 := Lib.hid (PIo.new HR4_11.out HB12.out)
  have HQ6_12 := Lib.hid (HQ6_11.out.new HB12.out)
  have HR6_12 := Lib.hid (PIo.new HR6_11.out HB12.out)
  have HQ7_12 := Lib.hid (HQ7_11.out.new HB12.out)
  have HR7_12 := Lib.hid (PIo.new HR7_11.out HB12.out)
  have HQ8_12 := Lib.hid (HQ8_11.out.new HB12.out)
  have HR8_12 := Lib.hid (PIo.new HR8_11.out HB12.out)
  have HQ9_12 := Lib.hid (HQ9_11.out.new HB12.out)
  have HR9_12 := Lib.hid (PIo.new HR9_11.out HB12.out)
  have HQ10_12 := Lib.hid (HQ10_11.out.new HB12.out)
  have HR10_12 := Lib.hid (PIo.new HR10_11.out HB12.out)
  have HQ11_12 := Lib.hid (HQ11.out.new HB12.out)
  have HR11_12 := Lib.hid (PIo.new HR11.out HB12.out)
  have HW_12 := Lib.hid (bt HW_11.out HB12.out)
  clear HQ2_11 HR2_11 HQ4_11 HR4_11 HQ6_11 HR6_11 HQ7_11 HR7_11 HQ8_11 HR8_11 HQ9_11 HR9_11 HQ10_11 HR10_11 HQ11 HR11 HW_11 hx11 a10_12 b10_12 a11_12 b11_12 HB12
  have HI13 := Lib.hid (in_lim (B2.lim HBn.out (by decide)))
  obtain ⟨a7_13, b7_13⟩ := HQ7_12.out.cells
  obtain ⟨a4_13, b4_13⟩ := HQ4_12.out.cells
  go_wp2_with fail
  refine (psub_any (x + y) (y) s7 s4 A7 A4 n7 c7 n4 c4 x12 HR7_12.out HR4_12.out (by omega) (by omega) (B2.lim HBa.out (by decide)) (B2.lim HXy.out (by decide))).mono ?_
  rw [HI13.out.1, HI13.out.2]
  clear HI13
  rintro e w13 ⟨s13, A13, n13, c13, rfl, hr13, hb13⟩
  obtain ⟨x13, hx13⟩ : ∃ z, w13.alloc (.cells #[.bool s13, .slice A13 n13 c13] 33) = z := ⟨_, rfl⟩
  have HB13 := Lib.hid (show Below x12.heap.size x12 x13 by rw [← hx13]; exact hb13.alloc hb13.size _)
  have HQ13 := Lib.hid (show P2 33 x13 w13.heap.size (.bool s13) (.slice A13 n13 c13) by rw [← hx13]; exact P2.lit _ _ _ _)
  have HR13 := Lib.hid (show PI x13 s13 A13 n13 c13 (x + y - y) by rw [← hx13]; exact PIo.new hr13 ((Below.refl _ _).alloc (Nat.le_refl _) _))
  have hn13 : n13 ≤ 242 := B2.plen hr13 HBn.out
  clear hr13 hb13
  have HQ2_13 := Lib.hid (HQ2_12.out.new HB13.out)
  have HR2_13 := Lib.hid (PIo.new HR2_12.out HB13.out)
  have HQ4_13 := Lib.hid (HQ4_12.out.new HB13.out)
  have HR4_13 := Lib.hid (PIo.new HR4_12.out HB13.out)
  have HQ6_13 := Lib.hid (HQ6_12.out.new HB13.out)
  have HR6_13 := Lib.hid (PIo.new HR6_12.out HB13.out)
  have HQ7_13 := Lib.hid (HQ7_12.out.new HB13.out)
  have HR7_13 := Lib.hid (PIo.new HR7_12.out HB13.out)
  have HQ8_13 := Lib.hid (HQ8_12.out.new HB13.out)
  have HR8_13 := Lib.hid (PIo.new HR8_12.out HB13.out)
  have HQ9_13 := Lib.hid (HQ9_12.out.new HB13.out)
  have HR9_13 := Lib.hid (PIo.new HR9_12.out HB13.out)
  have HQ10_13 := Lib.hid (HQ10_12.out.new HB13.out)
  have HR10_13 := Lib.hid (PIo.new HR10_12.out HB13.out)
  have HQ11_13 := Lib.hid (HQ11_12.out.new HB13.out)
  have HR11_13 := Lib.hid (PIo.new HR11_12.out HB13.out)
  have HQ12_13 := Lib.hid (HQ12.out.new HB13.out)
  have HR12_13 := Lib.hid (PIo.new HR12.out HB13.out)
  have HW_13 := Lib.hid (bt HW_12.out HB13.out)
  clear HQ2_12 HR2_12 HQ4_12 HR4_12 HQ6_12 HR6_12 HQ7_12 HR7_12 HQ8_12 HR8_12 HQ9_12 HR9_12 HQ10_12 HR10_12 HQ11_12 HR11_12 HQ12 HR12 HW_12 hx12 a7_13 b7_13 a4_13 b4_13 HB13
  clear HR10_13 HQ10_13 HR11_13 HQ11_13 HR6_13 HQ6_13
  obtain ⟨D, hD⟩ : ∃ D, ByteArray.mk (decI (x + y)).toArray = D := ⟨_, rfl⟩
  have HD := Lib.hid hD
  have HD2 := Lib.hid (show ByteArray.mk (decI (y + x)).toArray = D by rw [Int.add_comm]; exact hD)
  clear hD
  let S14 := fun w' : World => w'.cell? ⟨w7.heap.size, 0, none⟩ = some (.bool s7) ∧ w'.cell? ⟨w7.heap.size, 1, none⟩ = some (.slice A7 n7 c7) ∧ w'.cell? ⟨w8.heap.size, 0, none⟩ = some (.bool s8) ∧ w'.cell? ⟨w8.heap.size, 1, none⟩ = some (.slice A8 n8 c8) ∧ w'.cell? ⟨w9.heap.size, 0, none⟩ = some (.bool s9) ∧ w'.cell? ⟨w9.heap.size, 1, none⟩ = some (.slice A9 n9 c9) ∧ w'.cell? ⟨w12.heap.size, 0, none⟩ = some (.bool s12) ∧ w'.cell? ⟨w12.heap.size, 1, none⟩ = some (.slice A12 n12 c12) ∧ w'.cell? ⟨w13.heap.size, 0, none⟩ = some (.bool s13) ∧ w'.cell? ⟨w13.heap.size, 1, none⟩ = some (.slice A13 n13 c13) ∧ w'.cell? ⟨w2.heap.size, 0, none⟩ = some (.bool s2) ∧ w'.cell? ⟨w2.heap.size, 1, none⟩ = some (.slice A2 n2 c2) ∧ Below x13.heap.size x13 w'
  have hS14 : ∀ w', Below x13.heap.size x13 w' → S14 w' := fun w' hb => ⟨(HQ7_13.out.new hb).cells.1, (HQ7_13.out.new hb).cells.2, (HQ8_13.out.new hb).cells.1, (HQ8_13.out.new hb).cells.2, (HQ9_13.out.new hb).cells.1, (HQ9_13.out.new hb).cells.2, (HQ12_13.out.new hb).cells.1, (HQ12_13.out.new hb).cells.2, (HQ13.out.new hb).cells.1, (HQ13.out.new hb).cells.2, (HQ2_13.out.new hb).cells.1, (HQ2_13.out.new hb).cells.2, hb⟩
  have K14_0 : Hid (∀ w', S14 w' → Calls Try.prog 31 #[.agg #[.bool s7, .slice A7 n7 c7], .agg #[.bool s8, .slice A8 n8 c8]] w' fun e w'' => e = .returned (.int .i64 0) ∧ S14 w'') :=
    Lib.hid (fun w' h => (pcompare_any (x + y) (y + x) s7 s8 A7 A8 n7 c7 n8 c8 w' (PIo.new HR7_13.out h.2.2.2.2.2.2.2.2.2.2.2.2) (PIo.new HR8_13.out h.2.2.2.2.2.2.2.2.2.2.2.2) (by omega) (by omega)).mono (fun e w'' ⟨he, hb⟩ => ⟨by rw [he, cmpI_same (Int.add_comm x y)], hS14 _ (bt h.2.2.2.2.2.2.2.2.2.2.2.2 hb)⟩))
  have K14_1 : Hid (∀ w', S14 w' → Calls Try.prog 31 #[.agg #[.bool s9, .slice A9 n9 c9], .agg #[.bool s12, .slice A12 n12 c12]] w' fun e w'' => e = .returned (.int .i64 0) ∧ S14 w'') :=
    Lib.hid (fun w' h => (pcompare_any ((x + y) * z) (x * z + z * y) s9 s12 A9 A12 n9 c9 n12 c12 w' (PIo.new HR9_13.out h.2.2.2.2.2.2.2.2.2.2.2.2) (PIo.new HR12_13.out h.2.2.2.2.2.2.2.2.2.2.2.2) (by omega) (by omega)).mono (fun e w'' ⟨he, hb⟩ => ⟨by rw [he, cmpI_same (ring_a x y z)], hS14 _ (bt h.2.2.2.2.2.2.2.2.2.2.2.2 hb)⟩))
  have K14_2 : Hid (∀ w', S14 w' → Calls Try.prog 31 #[.agg #[.bool s13, .slice A13 n13 c13], .agg #[.bool s2, .slice A2 n2 c2]] w' fun e w'' => e = .returned (.int .i64 0) ∧ S14 w'') :=
    Lib.hid (fun w' h => (pcompare_any (x + y - y) (x) s13 s2 A13 A2 n13 c13 n2 c2 w' (PIo.new HR13.out h.2.2.2.2.2.2.2.2.2.2.2.2) (PIo.new HR2_13.out h.2.2.2.2.2.2.2.2.2.2.2.2) (by omega) (by omega)).mono (fun e w'' ⟨he, hb⟩ => ⟨by rw [he, cmpI_same (Int.add_sub_cancel x y)], hS14 _ (bt h.2.2.2.2.2.2.2.2.2.2.2.2 hb)⟩))
  have K14_3 : Hid (∀ w', S14 w' → Calls Try.prog 17 #[.agg #[.bool s7, .slice A7 n7 c7]] w' fun e w'' => e = .returned (.string D) ∧ S14 w'') :=
    Lib.hid (fun w' h => (pstring_any (x + y) s7 A7 n7 c7 w' (PIo.new HR7_13.out h.2.2.2.2.2.2.2.2.2.2.2.2) (by omega)).mono (fun e w'' ⟨he, hb⟩ => ⟨by rw [he, HD.out], hS14 _ (bt h.2.2.2.2.2.2.2.2.2.2.2.2 hb)⟩))
  have K14_4 : Hid (∀ w', S14 w' → Calls Try.prog 17 #[.agg #[.bool s8, .slice A8 n8 c8]] w' fun e w'' => e = .returned (.string D) ∧ S14 w'') :=
    Lib.hid (fun w' h => (pstring_any (y + x) s8 A8 n8 c8 w' (PIo.new HR8_13.out h.2.2.2.2.2.2.2.2.2.2.2.2) (by omega)).mono (fun e w'' ⟨he, hb⟩ => ⟨by rw [he, HD2.out], hS14 _ (bt h.2.2.2.2.2.2.2.2.2.2.2.2 hb)⟩))
  have bR14 := hS14 _ (Below.refl x13.heap.size x13).drew
  clear hS14
  go_wp2_with fail
  go_region_held3 (fun w' => w'.cell? ⟨w7.heap.size, 0, none⟩ = some (.bool s7) ∧ w'.cell? ⟨w7.heap.size, 1, none⟩ = some (.slice A7 n7 c7) ∧ w'.cell? ⟨w8.heap.size, 0, none⟩ = some (.bool s8) ∧ w'.cell? ⟨w8.heap.size, 1, none⟩ = some (.slice A8 n8 c8) ∧ w'.cell? ⟨w9.heap.size, 0, none⟩ = some (.bool s9) ∧ w'.cell? ⟨w9.heap.size, 1, none⟩ = some (.slice A9 n9 c9) ∧ w'.cell? ⟨w12.heap.size, 0, none⟩ = some (.bool s12) ∧ w'.cell? ⟨w12.heap.size, 1, none⟩ = some (.slice A12 n12 c12) ∧ w'.cell? ⟨w13.heap.size, 0, none⟩ = some (.bool s13) ∧ w'.cell? ⟨w13.heap.size, 1, none⟩ = some (.slice A13 n13 c13) ∧ w'.cell? ⟨w2.heap.size, 0, none⟩ = some (.bool s2) ∧ w'.cell? ⟨w2.heap.size, 1, none⟩ = some (.slice A2 n2 c2) ∧ Below x13.heap.size x13 w') (first | assumption | exact bR14 | go_keep)
    (first | (go_at_call_of 31 s7; refine (K14_0.out _ ?_).mono ?_; assumption; rintro e w' ⟨rfl, hc'⟩) | (go_at_call_of 31 s9; refine (K14_1.out _ ?_).mono ?_; assumption; rintro e w' ⟨rfl, hc'⟩) | (go_at_call_of 31 s13; refine (K14_2.out _ ?_).mono ?_; assumption; rintro e w' ⟨rfl, hc'⟩) | (go_at_call_of 17 s7; refine (K14_3.out _ ?_).mono ?_; assumption; rintro e w' ⟨rfl, hc'⟩) | (go_at_call_of 17 s8; refine (K14_4.out _ ?_).mono ?_; assumption; rintro e w' ⟨rfl, hc'⟩))
  rename_i hlast
  have HB14 := Lib.hid (hlast.2.2.2.2.2.2.2.2.2.2.2.2)
  clear hlast
  obtain ⟨x14, rfl⟩ := nm_world HB14.out
  have HQ2_14 := Lib.hid (HQ2_13.out.new HB14.out)
  have HR2_14 := Lib.hid (PIo.new HR2_13.out HB14.out)
  have HQ4_14 := Lib.hid (HQ4_13.out.new HB14.out)
  have HR4_14 := Lib.hid (PIo.new HR4_13.out HB14.out)
  have HQ7_14 := Lib.hid (HQ7_13.out.new HB14.out)
  have HR7_14 := Lib.hid (PIo.new HR7_13.out HB14.out)
  have HQ8_14 := Lib.hid (HQ8_13.out.new HB14.out)
  have HR8_14 := Lib.hid (PIo.new HR8_13.out HB14.out)
  have HQ9_14 := Lib.hid (HQ9_13.out.new HB14.out)
  have HR9_14 := Lib.hid (PIo.new HR9_13.out HB14.out)
  have HQ12_14 := Lib.hid (HQ12_13.out.new HB14.out)
  have HR12_14 := Lib.hid (PIo.new HR12_13.out HB14.out)
  have HQ13_14 := Lib.hid (HQ13.out.new HB14.out)
  have HR13_14 := Lib.hid (PIo.new HR13.out HB14.out)
  have HW_14 := Lib.hid (bt HW_13.out HB14.out)
  clear HQ2_13 HR2_13 HQ4_13 HR4_13 HQ7_13 HR7_13 HQ8_13 HR8_13 HQ9_13 HR9_13 HQ12_13 HR12_13 HQ13 HR13 HW_13 hx13 HB14
  clear HR7_14 HQ7_14 HR8_14 HQ8_14 HR12_14 HQ12_14 HR13_14 HQ13_14
  by_cases hy0 : y = 0
  · have HY0 := Lib.hid hy0
    clear hy0
    obtain ⟨a9_15, b9_15⟩ := HQ9_14.out.cells
    obtain ⟨a4_15, b4_15⟩ := HQ4_14.out.cells
    go_wp2_with fail
    refine (pdiv_zero s9 s4 A9 A4 n9 c9 n4 c4 x14 (PIo.eq HR4_14.out HY0.out) (by omega)).mono ?_
    rintro e w15 ⟨s15, A15, n15, c15, s15r, A15r, n15r, c15r, rfl, hr15, hr15r, hb15⟩
    obtain ⟨x15, hy15⟩ : ∃ x, W2 33 w15 (.bool s15) (.slice A15 n15 c15) (.bool s15r) (.slice A15r n15r c15r) = x := ⟨_, rfl⟩
    have hx15 : (w15.alloc (.cells #[.bool s15, .slice A15 n15 c15] 33)).alloc (.cells #[.bool s15r, .slice A15r n15r c15r] 33) = x15 := hy15
    have HB15 := Lib.hid (show Below x14.heap.size x14 x15 by rw [← hy15]; exact bt hb15 (W2_k _ _ _ _ _ _))
    have HQ15 := Lib.hid (show P2 33 x15 w15.heap.size (.bool s15) (.slice A15 n15 c15) by rw [← hy15]; exact W2_a _ _ _ _ _ _)
    have HQ15r := Lib.hid (show P2 33 x15 (w15.heap.size + 1) (.bool s15r) (.slice A15r n15r c15r) by rw [← hy15]; exact W2_z _ _ _ _ _ _)
    have HR15 := Lib.hid (show PI x15 s15 A15 n15 c15 (0) by rw [← hy15]; exact PIo.new hr15 (W2_k _ _ _ _ _ _))
    have HR15r := Lib.hid (show PI x15 s15r A15r n15r c15r (0) by rw [← hy15]; exact PIo.new hr15r (W2_k _ _ _ _ _ _))
    have hn15 : True := trivial
    have hn15r : True := trivial
    clear hr15 hr15r hb15 hy15
    have HQ2_15 := Lib.hid (HQ2_14.out.new HB15.out)
    have HR2_15 := Lib.hid (PIo.new HR2_14.out HB15.out)
    have HQ4_15 := Lib.hid (HQ4_14.out.new HB15.out)
    have HR4_15 := Lib.hid (PIo.new HR4_14.out HB15.out)
    have HQ9_15 := Lib.hid (HQ9_14.out.new HB15.out)
    have HR9_15 := Lib.hid (PIo.new HR9_14.out HB15.out)
    have HW_15 := Lib.hid (bt HW_14.out HB15.out)
    clear HQ2_14 HR2_14 HQ4_14 HR4_14 HQ9_14 HR9_14 HW_14 a9_15 b9_15 a4_15 b4_15 HB15
    obtain ⟨a4_16, b4_16⟩ := HQ4_15.out.cells
    go_wp2_with fail
    refine (sign_any y s4 A4 n4 c4 x15 HR4_15.out (by omega)).mono ?_
    rw [HY0.out, show cmpI 0 0 = 0 from rfl]
    rintro e w16 ⟨rfl, hb16⟩
    have HB16 := Lib.hid hb16
    clear hb16
    have HQ2_16 := Lib.hid (HQ2_15.out.new HB16.out)
    have HR2_16 := Lib.hid (PIo.new HR2_15.out HB16.out)
    have HQ4_16 := Lib.hid (HQ4_15.out.new HB16.out)
    have HR4_16 := Lib.hid (PIo.new HR4_15.out HB16.out)
    have HQ9_16 := Lib.hid (HQ9_15.out.new HB16.out)
    have HR9_16 := Lib.hid (PIo.new HR9_15.out HB16.out)
    have HQ15_16 := Lib.hid (HQ15.out.new HB16.out)
    have HR15_16 := Lib.hid (PIo.new HR15.out HB16.out)
    have HQ15r_16 := Lib.hid (HQ15r.out.new HB16.out)
    have HR15r_16 := Lib.hid (PIo.new HR15r.out HB16.out)
    have HW_16 := Lib.hid (bt HW_15.out HB16.out)
    clear HQ2_15 HR2_15 HQ4_15 HR4_15 HQ9_15 HR9_15 HQ15 HR15 HQ15r HR15r HW_15 hx15 a4_16 b4_16 HB16
    go_wp2_with fail
    refine (lives_any w16).mono ?_
    rintro e w17 ⟨rfl, hb17⟩
    have HB17 := Lib.hid hb17
    clear hb17
    have HQ2_17 := Lib.hid (HQ2_16.out.new HB17.out)
    have HR2_17 := Lib.hid (PIo.new HR2_16.out HB17.out)
    have HQ4_17 := Lib.hid (HQ4_16.out.new HB17.out)
    have HR4_17 := Lib.hid (PIo.new HR4_16.out HB17.out)
    have HQ9_17 := Lib.hid (HQ9_16.out.new HB17.out)
    have HR9_17 := Lib.hid (PIo.new HR9_16.out HB17.out)
    have HQ15_17 := Lib.hid (HQ15_16.out.new HB17.out)
    have HR15_17 := Lib.hid (PIo.new HR15_16.out HB17.out)
    have HQ15r_17 := Lib.hid (HQ15r_16.out.new HB17.out)
    have HR15r_17 := Lib.hid (PIo.new HR15r_16.out HB17.out)
    have HW_17 := Lib.hid (bt HW_16.out HB17.out)
    clear HQ2_16 HR2_16 HQ4_16 HR4_16 HQ9_16 HR9_16 HQ15_16 HR15_16 HQ15r_16 HR15r_16 HW_16 HB17
    go_wp2
    go_ret
    exact ⟨rfl, HW_17.out⟩
  · have HY0 := Lib.hid hy0
    clear hy0
    have HBq := Lib.hid (show ((x + y) * z / y).natAbs < B2 (241 + 240) from B2.div HBc.out)
    have HBr := Lib.hid (show ((x + y) * z % y).natAbs < B2 240 from B2.mod HY0.out HXy.out)
    have HBp := Lib.hid (show ((x + y) * z / y * y).natAbs < B2 (241 + 240 + 240) from B2.mul HBq.out HXy.out)
    have HU := Lib.hid (show (x + y) * z / y * y + (x + y) * z % y = (x + y) * z from Int.ediv_mul_add_emod _ _)
    obtain ⟨a9_35, b9_35⟩ := HQ9_14.out.cells
    obtain ⟨a4_35, b4_35⟩ := HQ4_14.out.cells
    go_wp2_with fail
    refine (pdiv_any ((x + y) * z) y s9 s4 A9 A4 n9 c9 n4 c4 x14 HR9_14.out HR4_14.out (by omega) (by omega) HY0.out).mono ?_
    rintro e w35 ⟨s35, A35, n35, c35, s35r, A35r, n35r, c35r, rfl, hr35, hr35r, hb35⟩
    obtain ⟨x35, hy35⟩ : ∃ x, W2 33 w35 (.bool s35) (.slice A35 n35 c35) (.bool s35r) (.slice A35r n35r c35r) = x := ⟨_, rfl⟩
    have hx35 : (w35.alloc (.cells #[.bool s35, .slice A35 n35 c35] 33)).alloc (.cells #[.bool s35r, .slice A35r n35r c35r] 33) = x35 := hy35
    have HB35 := Lib.hid (show Below x14.heap.size x14 x35 by rw [← hy35]; exact bt hb35 (W2_k _ _ _ _ _ _))
    have HQ35 := Lib.hid (show P2 33 x35 w35.heap.size (.bool s35) (.slice A35 n35 c35) by rw [← hy35]; exact W2_a _ _ _ _ _ _)
    have HQ35r := Lib.hid (show P2 33 x35 (w35.heap.size + 1) (.bool s35r) (.slice A35r n35r c35r) by rw [← hy35]; exact W2_z _ _ _ _ _ _)
    have HR35 := Lib.hid (show PI x35 s35 A35 n35 c35 ((x + y) * z / y) by rw [← hy35]; exact PIo.new hr35 (W2_k _ _ _ _ _ _))
    have HR35r := Lib.hid (show PI x35 s35r A35r n35r c35r ((x + y) * z % y) by rw [← hy35]; exact PIo.new hr35r (W2_k _ _ _ _ _ _))
    have hn35 : n35 ≤ 241 + 240 := B2.plen hr35 HBq.out
    have hn35r : n35r ≤ 240 := B2.plen hr35r HBr.out
    clear hr35 hr35r hb35 hy35
    have HQ2_35 := Lib.hid (HQ2_14.out.new HB35.out)
    have HR2_35 := Lib.hid (PIo.new HR2_14.out HB35.out)
    have HQ4_35 := Lib.hid (HQ4_14.out.new HB35.out)
    have HR4_35 := Lib.hid (PIo.new HR4_14.out HB35.out)
    have HQ9_35 := Lib.hid (HQ9_14.out.new HB35.out)
    have HR9_35 := Lib.hid (PIo.new HR9_14.out HB35.out)
    have HW_35 := Lib.hid (bt HW_14.out HB35.out)
    clear HQ2_14 HR2_14 HQ4_14 HR4_14 HQ9_14 HR9_14 HW_14 a9_35 b9_35 a4_35 b4_35 HB35
    have HI36 := Lib.hid (in_lim (B2.lim HBp.out (by decide)))
    obtain ⟨a35_36, b35_36⟩ := HQ35.out.cells
    obtain ⟨a4_36, b4_36⟩ := HQ4_35.out.cells
    go_wp2_with fail
    refine (pmul_any ((x + y) * z / y) (y) s35 s4 A35 A4 n35 c35 n4 c4 x35 HR35.out HR4_35.out (by omega) (by omega)).mono ?_
    rw [HI36.out.1, HI36.out.2]
    clear HI36
    rintro e w36 ⟨s36, A36, n36, c36, rfl, hr36, hb36⟩
    obtain ⟨x36, hx36⟩ : ∃ z, w36.alloc (.cells #[.bool s36, .slice A36 n36 c36] 33) = z := ⟨_, rfl⟩
    have HB36 := Lib.hid (show Below x35.heap.size x35 x36 by rw [← hx36]; exact hb36.alloc hb36.size _)
    have HQ36 := Lib.hid (show P2 33 x36 w36.heap.size (.bool s36) (.slice A36 n36 c36) by rw [← hx36]; exact P2.lit _ _ _ _)
    have HR36 := Lib.hid (show PI x36 s36 A36 n36 c36 ((x + y) * z / y * y) by rw [← hx36]; exact PIo.new hr36 ((Below.refl _ _).alloc (Nat.le_refl _) _))
    have hn36 : n36 ≤ 241 + 240 + 240 := B2.plen hr36 HBp.out
    clear hr36 hb36
    have HQ2_36 := Lib.hid (HQ2_35.out.new HB36.out)
    have HR2_36 := Lib.hid (PIo.new HR2_35.out HB36.out)
    have HQ4_36 := Lib.hid (HQ4_35.out.new HB36.out)
    have HR4_36 := Lib.hid (PIo.new HR4_35.out HB36.out)
    have HQ9_36 := Lib.hid (HQ9_35.out.new HB36.out)
    have HR9_36 := Lib.hid (PIo.new HR9_35.out HB36.out)
    have HQ35_36 := Lib.hid (HQ35.out.new HB36.out)
    have HR35_36 := Lib.hid (PIo.new HR35.out HB36.out)
    have HQ35r_36 := Lib.hid (HQ35r.out.new HB36.out)
    have HR35r_36 := Lib.hid (PIo.new HR35r.out HB36.out)
    have HW_36 := Lib.hid (bt HW_35.out HB36.out)
    clear HQ2_35 HR2_35 HQ4_35 HR4_35 HQ9_35 HR9_35 HQ35 HR35 HQ35r HR35r HW_35 hx35 a35_36 b35_36 a4_36 b4_36 HB36
    have HBu := Lib.hid (show ((x + y) * z / y * y + (x + y) * z % y).natAbs < B2 (241 + 240) by rw [HU.out]; exact HBc.out)
    have HI37 := Lib.hid (in_lim (B2.lim HBu.out (by decide)))
    obtain ⟨a36_37, b36_37⟩ := HQ36.out.cells
    obtain ⟨a35r_37, b35r_37⟩ := HQ35r_36.out.cells
    go_wp2_with fail
    refine (padd_any ((x + y) * z / y * y) ((x + y) * z % y) s36 s35r A36 A35r n36 c36 n35r c35r x36 HR36.out HR35r_36.out (by omega) (by omega) (B2.lim HBp.out (by decide)) (B2.lim HBr.out (by decide))).mono ?_
    rw [HI37.out.1, HI37.out.2]
    clear HI37
    rintro e w37 ⟨s37, A37, n37, c37, rfl, hr37, hb37⟩
    obtain ⟨x37, hx37⟩ : ∃ z, w37.alloc (.cells #[.bool s37, .slice A37 n37 c37] 33) = z := ⟨_, rfl⟩
    have HB37 := Lib.hid (show Below x36.heap.size x36 x37 by rw [← hx37]; exact hb37.alloc hb37.size _)
    have HQ37 := Lib.hid (show P2 33 x37 w37.heap.size (.bool s37) (.slice A37 n37 c37) by rw [← hx37]; exact P2.lit _ _ _ _)
    have HR37 := Lib.hid (show PI x37 s37 A37 n37 c37 ((x + y) * z / y * y + (x + y) * z % y) by rw [← hx37]; exact PIo.new hr37 ((Below.refl _ _).alloc (Nat.le_refl _) _))
    have hn37 : n37 ≤ 241 + 240 := B2.plen hr37 HBu.out
    clear hr37 hb37
    have HQ2_37 := Lib.hid (HQ2_36.out.new HB37.out)
    have HR2_37 := Lib.hid (PIo.new HR2_36.out HB37.out)
    have HQ4_37 := Lib.hid (HQ4_36.out.new HB37.out)
    have HR4_37 := Lib.hid (PIo.new HR4_36.out HB37.out)
    have HQ9_37 := Lib.hid (HQ9_36.out.new HB37.out)
    have HR9_37 := Lib.hid (PIo.new HR9_36.out HB37.out)
    have HQ35_37 := Lib.hid (HQ35_36.out.new HB37.out)
    have HR35_37 := Lib.hid (PIo.new HR35_36.out HB37.out)
    have HQ35r_37 := Lib.hid (HQ35r_36.out.new HB37.out)
    have HR35r_37 := Lib.hid (PIo.new HR35r_36.out HB37.out)
    have HQ36_37 := Lib.hid (HQ36.out.new HB37.out)
    have HR36_37 := Lib.hid (PIo.new HR36.out HB37.out)
    have HW_37 := Lib.hid (bt HW_36.out HB37.out)
    clear HQ2_36 HR2_36 HQ4_36 HR4_36 HQ9_36 HR9_36 HQ35_36 HR35_36 HQ35r_36 HR35r_36 HQ36 HR36 HW_36 hx36 a36_37 b36_37 a35r_37 b35r_37 HB37
    obtain ⟨a4_38, b4_38⟩ := HQ4_37.out.cells
    obtain ⟨x38, hx38⟩ : ∃ z, x37.alloc (.cells #[.bool s4, .slice A4 n4 c4] 33) = z := ⟨_, rfl⟩
    have HB38 := Lib.hid (show Below x37.heap.size x37 x38 by rw [← hx38]; exact (Below.refl _ _).alloc (Nat.le_refl _) _)
    have HQ38 := Lib.hid (show P2 33 x38 x37.heap.size (.bool s4) (.slice A4 n4 c4) by rw [← hx38]; exact P2.lit _ _ _ _)
    have HNEu := Lib.hid (show w37.heap.size ≠ x37.heap.size from Nat.ne_of_lt HQ37.out.lt)
    have HNEc := Lib.hid (show w9.heap.size ≠ x37.heap.size from Nat.ne_of_lt HQ9_37.out.lt)
    have HNEr := Lib.hid (show (w35.heap.size + 1) ≠ x37.heap.size from Nat.ne_of_lt HQ35r_37.out.lt)
    have HWB := Lib.hid (show w.heap.size ≤ x37.heap.size from HW_37.out.size)
    have HR38 := Lib.hid (PIo.new HR4_37.out HB38.out)
    have HQ2_38 := Lib.hid (HQ2_37.out.new HB38.out)
    have HR2_38 := Lib.hid (PIo.new HR2_37.out HB38.out)
    have HQ4_38 := Lib.hid (HQ4_37.out.new HB38.out)
    have HR4_38 := Lib.hid (PIo.new HR4_37.out HB38.out)
    have HQ9_38 := Lib.hid (HQ9_37.out.new HB38.out)
    have HR9_38 := Lib.hid (PIo.new HR9_37.out HB38.out)
    have HQ35_38 := Lib.hid (HQ35_37.out.new HB38.out)
    have HR35_38 := Lib.hid (PIo.new HR35_37.out HB38.out)
    have HQ35r_38 := Lib.hid (HQ35r_37.out.new HB38.out)
    have HR35r_38 := Lib.hid (PIo.new HR35r_37.out HB38.out)
    have HQ36_38 := Lib.hid (HQ36_37.out.new HB38.out)
    have HR36_38 := Lib.hid (PIo.new HR36_37.out HB38.out)
    have HQ37_38 := Lib.hid (HQ37.out.new HB38.out)
    have HR37_38 := Lib.hid (PIo.new HR37.out HB38.out)
    have HW_38 := Lib.hid (bt HW_37.out HB38.out)
    clear HQ2_37 HR2_37 HQ4_37 HR4_37 HQ9_37 HR9_37 HQ35_37 HR35_37 HQ35r_37 HR35r_37 HQ36_37 HR36_37 HQ37 HR37 HW_37 HB38
    obtain ⟨a4_39, b4_39⟩ := HQ4_38.out.cells
    go_wp2_with fail
    refine (sign_any y s4 A4 n4 c4 x38 HR4_38.out (by omega)).mono ?_
    rintro e w39 ⟨rfl, hb39⟩
    have HB39 := Lib.hid hb39
    clear hb39
    have HQ2_39 := Lib.hid (HQ2_38.out.new HB39.out)
    have HR2_39 := Lib.hid (PIo.new HR2_38.out HB39.out)
    have HQ4_39 := Lib.hid (HQ4_38.out.new HB39.out)
    have HR4_39 := Lib.hid (PIo.new HR4_38.out HB39.out)
    have HQ9_39 := Lib.hid (HQ9_38.out.new HB39.out)
    have HR9_39 := Lib.hid (PIo.new HR9_38.out HB39.out)
    have HQ35_39 := Lib.hid (HQ35_38.out.new HB39.out)
    have HR35_39 := Lib.hid (PIo.new HR35_38.out HB39.out)
    have HQ35r_39 := Lib.hid (HQ35r_38.out.new HB39.out)
    have HR35r_39 := Lib.hid (PIo.new HR35r_38.out HB39.out)
    have HQ36_39 := Lib.hid (HQ36_38.out.new HB39.out)
    have HR36_39 := Lib.hid (PIo.new HR36_38.out HB39.out)
    have HQ37_39 := Lib.hid (HQ37_38.out.new HB39.out)
    have HR37_39 := Lib.hid (PIo.new HR37_38.out HB39.out)
    have HQsz_39 := Lib.hid (HQ38.out.new HB39.out)
    have HRsz_39 := Lib.hid (PIo.new HR38.out HB39.out)
    have HW_39 := Lib.hid (bt HW_38.out HB39.out)
    clear HQ2_38 HR2_38 HQ4_38 HR4_38 HQ9_38 HR9_38 HQ35_38 HR35_38 HQ35r_38 HR35r_38 HQ36_38 HR36_38 HQ37_38 HR37_38 HQ38 HR38 HW_38 hx37 a4_38 b4_38 hx38 a4_39 b4_39 HB39
    by_cases hyn : y < 0
    · have HLT := Lib.hid (show (x + y) * z % y < -y by have := Int.emod_lt ((x + y) * z) HY0.out; omega)
      rw [cmpI_less hyn]
      obtain ⟨a4_39, b4_39⟩ := HQ4_39.out.cells
      have fasz_39 := HQsz_39.out.frozen 0
      have fbsz_39 := HQsz_39.out.frozen 1
      go_wp2_with fail
      refine (pneg_any y s4 A4 n4 c4 w39 HR4_39.out (by omega)).mono ?_
      rintro e w40 ⟨s40, A40, n40, c40, rfl, hr40, hb40⟩
      have HB40 := Lib.hid hb40
      have HR40 := Lib.hid hr40
      have hn40 : n40 ≤ 240 := B2.plen hr40 (B2.neg HXy.out)
      clear hr40 hb40
      have HQ2_40 := Lib.hid (HQ2_39.out.new HB40.out)
      have HR2_40 := Lib.hid (PIo.new HR2_39.out HB40.out)
      have HQ4_40 := Lib.hid (HQ4_39.out.new HB40.out)
      have HR4_40 := Lib.hid (PIo.new HR4_39.out HB40.out)
      have HQ9_40 := Lib.hid (HQ9_39.out.new HB40.out)
      have HR9_40 := Lib.hid (PIo.new HR9_39.out HB40.out)
      have HQ35_40 := Lib.hid (HQ35_39.out.new HB40.out)
      have HR35_40 := Lib.hid (PIo.new HR35_39.out HB40.out)
      have HQ35r_40 := Lib.hid (HQ35r_39.out.new HB40.out)
      have HR35r_40 := Lib.hid (PIo.new HR35r_39.out HB40.out)
      have HQ36_40 := Lib.hid (HQ36_39.out.new HB40.out)
      have HR36_40 := Lib.hid (PIo.new HR36_39.out HB40.out)
      have HQ37_40 := Lib.hid (HQ37_39.out.new HB40.out)
      have HR37_40 := Lib.hid (PIo.new HR37_39.out HB40.out)
      have HQsz_40 := Lib.hid (HQsz_39.out.new HB40.out)
      have HRsz_40 := Lib.hid (PIo.new HRsz_39.out HB40.out)
      have HW_40 := Lib.hid (bt HW_39.out HB40.out)
      clear HQ2_39 HR2_39 HQ4_39 HR4_39 HQ9_39 HR9_39 HQ35_39 HR35_39 HQ35r_39 HR35r_39 HQ36_39 HR36_39 HQ37_39 HR37_39 HQsz_39 HRsz_39 HW_39 a4_39 b4_39 fasz_39 fbsz_39 HB40
      obtain ⟨asz_41, bsz_41⟩ := HQsz_40.out.cells
      have fasz_41 := HQsz_40.out.frozen 0
      have fbsz_41 := HQsz_40.out.frozen 1
      obtain ⟨a37_41, b37_41⟩ := HQ37_40.out.cells
      obtain ⟨a9_41, b9_41⟩ := HQ9_40.out.cells
      obtain ⟨a35r_41, b35r_41⟩ := HQ35r_40.out.cells
      obtain ⟨x41, hx41⟩ : ∃ z, (w40.setCell ⟨x37.heap.size, 0, none⟩ (.bool s40)).setCell ⟨x37.heap.size, 1, none⟩ (.slice A40 n40 c40) = z := ⟨_, rfl⟩
      have HQm := Lib.hid (show P2 33 x41 x37.heap.size (.bool s40) (.slice A40 n40 c40) by rw [← hx41]; exact HQsz_40.out.all _ _)
      have HRm := Lib.hid (show PI x41 s40 A40 n40 c40 (-y) by rw [← hx41]; exact HR40.out.box HQsz_40.out rfl rfl _ _)
      have HQ37_41 := Lib.hid (show P2 33 x41 w37.heap.size (.bool s37) (.slice A37 n37 c37) by rw [← hx41]; exact HQ37_40.out.far2 (HNEu.out) _ _)
      have HR37_41 := Lib.hid (show PI x41 s37 A37 n37 c37 ((x + y) * z / y * y + (x + y) * z % y) by rw [← hx41]; exact HR37_40.out.box HQsz_40.out rfl rfl _ _)
      have HQ9_41 := Lib.hid (show P2 33 x41 w9.heap.size (.bool s9) (.slice A9 n9 c9) by rw [← hx41]; exact HQ9_40.out.far2 (HNEc.out) _ _)
      have HR9_41 := Lib.hid (show PI x41 s9 A9 n9 c9 ((x + y) * z) by rw [← hx41]; exact HR9_40.out.box HQsz_40.out rfl rfl _ _)
      have HQ35r_41 := Lib.hid (show P2 33 x41 (w35.heap.size + 1) (.bool s35r) (.slice A35r n35r c35r) by rw [← hx41]; exact HQ35r_40.out.far2 (HNEr.out) _ _)
      have HR35r_41 := Lib.hid (show PI x41 s35r A35r n35r c35r ((x + y) * z % y) by rw [← hx41]; exact HR35r_40.out.box HQsz_40.out rfl rfl _ _)
      have HW_41 := Lib.hid (show Below w.heap.size w x41 by rw [← hx41]; exact below_box HW_40.out HWB.out _ _)
      clear HQ37_40 HR37_40 HQ9_40 HR9_40 HQ35r_40 HR35r_40 HW_40
      clear HR2_40 HQ2_40
      clear HR4_40 HQ4_40
      clear HR35_40 HQ35_40
      clear HR36_40 HQ36_40
      clear HRsz_40 HQsz_40
      clear HR40
      obtain ⟨a37_42, b37_42⟩ := HQ37_41.out.cells
      obtain ⟨a9_42, b9_42⟩ := HQ9_41.out.cells
      go_wp2_with fail
      refine (pcompare_any ((x + y) * z / y * y + (x + y) * z % y) ((x + y) * z) s37 s9 A37 A9 n37 c37 n9 c9 x41 HR37_41.out HR9_41.out (by omega) (by omega)).mono ?_
      rw [cmpI_same HU.out]
      rintro e w42 ⟨rfl, hb42⟩
      have HB42 := Lib.hid hb42
      clear hb42
      have HQ9_42 := Lib.hid (HQ9_41.out.new HB42.out)
      have HR9_42 := Lib.hid (PIo.new HR9_41.out HB42.out)
      have HQ35r_42 := Lib.hid (HQ35r_41.out.new HB42.out)
      have HR35r_42 := Lib.hid (PIo.new HR35r_41.out HB42.out)
      have HQ37_42 := Lib.hid (HQ37_41.out.new HB42.out)
      have HR37_42 := Lib.hid (PIo.new HR37_41.out HB42.out)
      have HQ40_42 := Lib.hid (HQm.out.new HB42.out)
      have HR40_42 := Lib.hid (PIo.new HRm.out HB42.out)
      have HW_42 := Lib.hid (bt HW_41.out HB42.out)
      clear HQ9_41 HR9_41 HQ35r_41 HR35r_41 HQ37_41 HR37_41 HQm HRm HW_41 asz_41 bsz_41 fasz_41 fbsz_41 a37_41 b37_41 a9_41 b9_41 a35r_41 b35r_41 hx41 a37_42 b37_42 a9_42 b9_42 HB42
      obtain ⟨a35r_43, b35r_43⟩ := HQ35r_42.out.cells
      go_wp2_with fail
      refine (sign_any ((x + y) * z % y) s35r A35r n35r c35r w42 HR35r_42.out (by omega)).mono ?_
      rintro e w43 ⟨rfl, hb43⟩
      have HB43 := Lib.hid hb43
      clear hb43
      have HQ9_43 := Lib.hid (HQ9_42.out.new HB43.out)
      have HR9_43 := Lib.hid (PIo.new HR9_42.out HB43.out)
      have HQ35r_43 := Lib.hid (HQ35r_42.out.new HB43.out)
      have HR35r_43 := Lib.hid (PIo.new HR35r_42.out HB43.out)
      have HQ37_43 := Lib.hid (HQ37_42.out.new HB43.out)
      have HR37_43 := Lib.hid (PIo.new HR37_42.out HB43.out)
      have HQ40_43 := Lib.hid (HQ40_42.out.new HB43.out)
      have HR40_43 := Lib.hid (PIo.new HR40_42.out HB43.out)
      have HW_43 := Lib.hid (bt HW_42.out HB43.out)
      clear HQ9_42 HR9_42 HQ35r_42 HR35r_42 HQ37_42 HR37_42 HQ40_42 HR40_42 HW_42 a35r_43 b35r_43 HB43
      have hsg := cmpI_ge (Int.emod_nonneg ((x + y) * z) HY0.out)
      obtain ⟨a35r_44, b35r_44⟩ := HQ35r_43.out.cells
      obtain ⟨a40_44, b40_44⟩ := HQ40_43.out.cells
      go_wp2_with fail
      refine (pcompare_any ((x + y) * z % y) (-y) s35r s40 A35r A40 n35r c35r n40 c40 w43 HR35r_43.out HR40_43.out (by omega) (by omega)).mono ?_
      rw [cmpI_less HLT.out]
      rintro e w44 ⟨rfl, hb44⟩
      have HB44 := Lib.hid hb44
      clear hb44
      have HQ9_44 := Lib.hid (HQ9_43.out.new HB44.out)
      have HR9_44 := Lib.hid (PIo.new HR9_43.out HB44.out)
      have HQ35r_44 := Lib.hid (HQ35r_43.out.new HB44.out)
      have HR35r_44 := Lib.hid (PIo.new HR35r_43.out HB44.out)
      have HQ37_44 := Lib.hid (HQ37_43.out.new HB44.out)
      have HR37_44 := Lib.hid (PIo.new HR37_43.out HB44.out)
      have HQ40_44 := Lib.hid (HQ40_43.out.new HB44.out)
      have HR40_44 := Lib.hid (PIo.new HR40_43.out HB44.out)
      have HW_44 := Lib.hid (bt HW_43.out HB44.out)
      clear HQ9_43 HR9_43 HQ35r_43 HR35r_43 HQ37_43 HR37_43 HQ40_43 HR40_43 HW_43 a35r_44 b35r_44 a40_44 b40_44 HB44
      go_wp2_with fail
      refine (lives_any w44).mono ?_
      rintro e w45 ⟨rfl, hb45⟩
      have HB45 := Lib.hid hb45
      clear hb45
      have HQ9_45 := Lib.hid (HQ9_44.out.new HB45.out)
      have HR9_45 := Lib.hid (PIo.new HR9_44.out HB45.out)
      have HQ35r_45 := Lib.hid (HQ35r_44.out.new HB45.out)
      have HR35r_45 := Lib.hid (PIo.new HR35r_44.out HB45.out)
      have HQ37_45 := Lib.hid (HQ37_44.out.new HB45.out)
      have HR37_45 := Lib.hid (PIo.new HR37_44.out HB45.out)
      have HQ40_45 := Lib.hid (HQ40_44.out.new HB45.out)
      have HR40_45 := Lib.hid (PIo.new HR40_44.out HB45.out)
      have HW_45 := Lib.hid (bt HW_44.out HB45.out)
      clear HQ9_44 HR9_44 HQ35r_44 HR35r_44 HQ37_44 HR37_44 HQ40_44 HR40_44 HW_44 HB45
      go_wp2
      go_ret
      exact ⟨rfl, HW_45.out⟩
    · have HLT := Lib.hid (show (x + y) * z % y < y by have := Int.emod_lt ((x + y) * z) HY0.out; omega)
      have hsy := cmpI_ge (show 0 ≤ y by omega)
      obtain ⟨a37_60, b37_60⟩ := HQ37_39.out.cells
      obtain ⟨a9_60, b9_60⟩ := HQ9_39.out.cells
      go_wp2_with fail
      refine (pcompare_any ((x + y) * z / y * y + (x + y) * z % y) ((x + y) * z) s37 s9 A37 A9 n37 c37 n9 c9 w39 HR37_39.out HR9_39.out (by omega) (by omega)).mono ?_
      rw [cmpI_same HU.out]
      rintro e w60 ⟨rfl, hb60⟩
      have HB60 := Lib.hid hb60
      clear hb60
      have HQ2_60 := Lib.hid (HQ2_39.out.new HB60.out)
      have HR2_60 := Lib.hid (PIo.new HR2_39.out HB60.out)
      have HQ4_60 := Lib.hid (HQ4_39.out.new HB60.out)
      have HR4_60 := Lib.hid (PIo.new HR4_39.out HB60.out)
      have HQ9_60 := Lib.hid (HQ9_39.out.new HB60.out)
      have HR9_60 := Lib.hid (PIo.new HR9_39.out HB60.out)
      have HQ35_60 := Lib.hid (HQ35_39.out.new HB60.out)
      have HR35_60 := Lib.hid (PIo.new HR35_39.out HB60.out)
      have HQ35r_60 := Lib.hid (HQ35r_39.out.new HB60.out)
      have HR35r_60 := Lib.hid (PIo.new HR35r_39.out HB60.out)
      have HQ36_60 := Lib.hid (HQ36_39.out.new HB60.out)
      have HR36_60 := Lib.hid (PIo.new HR36_39.out HB60.out)
      have HQ37_60 := Lib.hid (HQ37_39.out.new HB60.out)
      have HR37_60 := Lib.hid (PIo.new HR37_39.out HB60.out)
      have HQsz_60 := Lib.hid (HQsz_39.out.new HB60.out)
      have HRsz_60 := Lib.hid (PIo.new HRsz_39.out HB60.out)
      have HW_60 := Lib.hid (bt HW_39.out HB60.out)
      clear HQ2_39 HR2_39 HQ4_39 HR4_39 HQ9_39 HR9_39 HQ35_39 HR35_39 HQ35r_39 HR35r_39 HQ36_39 HR36_39 HQ37_39 HR37_39 HQsz_39 HRsz_39 HW_39 a37_60 b37_60 a9_60 b9_60 HB60
      obtain ⟨a35r_61, b35r_61⟩ := HQ35r_60.out.cells
      go_wp2_with fail
      refine (sign_any ((x + y) * z % y) s35r A35r n35r c35r w60 HR35r_60.out (by omega)).mono ?_
      rintro e w61 ⟨rfl, hb61⟩
      have HB61 := Lib.hid hb61
      clear hb61
      have HQ2_61 := Lib.hid (HQ2_60.out.new HB61.out)
      have HR2_61 := Lib.hid (PIo.new HR2_60.out HB61.out)
      have HQ4_61 := Lib.hid (HQ4_60.out.new HB61.out)
      have HR4_61 := Lib.hid (PIo.new HR4_60.out HB61.out)
      have HQ9_61 := Lib.hid (HQ9_60.out.new HB61.out)
      have HR9_61 := Lib.hid (PIo.new HR9_60.out HB61.out)
      have HQ35_61 := Lib.hid (HQ35_60.out.new HB61.out)
      have HR35_61 := Lib.hid (PIo.new HR35_60.out HB61.out)
      have HQ35r_61 := Lib.hid (HQ35r_60.out.new HB61.out)
      have HR35r_61 := Lib.hid (PIo.new HR35r_60.out HB61.out)
      have HQ36_61 := Lib.hid (HQ36_60.out.new HB61.out)
      have HR36_61 := Lib.hid (PIo.new HR36_60.out HB61.out)
      have HQ37_61 := Lib.hid (HQ37_60.out.new HB61.out)
      have HR37_61 := Lib.hid (PIo.new HR37_60.out HB61.out)
      have HQsz_61 := Lib.hid (HQsz_60.out.new HB61.out)
      have HRsz_61 := Lib.hid (PIo.new HRsz_60.out HB61.out)
      have HW_61 := Lib.hid (bt HW_60.out HB61.out)
      clear HQ2_60 HR2_60 HQ4_60 HR4_60 HQ9_60 HR9_60 HQ35_60 HR35_60 HQ35r_60 HR35r_60 HQ36_60 HR36_60 HQ37_60 HR37_60 HQsz_60 HRsz_60 HW_60 a35r_61 b35r_61 HB61
      have hsg := cmpI_ge (Int.emod_nonneg ((x + y) * z) HY0.out)
      obtain ⟨a35r_62, b35r_62⟩ := HQ35r_61.out.cells
      obtain ⟨asz_62, bsz_62⟩ := HQsz_61.out.cells
      go_wp2_with fail
      refine (pcompare_any ((x + y) * z % y) (y) s35r s4 A35r A4 n35r c35r n4 c4 w61 HR35r_61.out HRsz_61.out (by omega) (by omega)).mono ?_
      rw [cmpI_less HLT.out]
      rintro e w62 ⟨rfl, hb62⟩
      have HB62 := Lib.hid hb62
      clear hb62
      have HQ2_62 := Lib.hid (HQ2_61.out.new HB62.out)
      have HR2_62 := Lib.hid (PIo.new HR2_61.out HB62.out)
      have HQ4_62 := Lib.hid (HQ4_61.out.new HB62.out)
      have HR4_62 := Lib.hid (PIo.new HR4_61.out HB62.out)
      have HQ9_62 := Lib.hid (HQ9_61.out.new HB62.out)
      have HR9_62 := Lib.hid (PIo.new HR9_61.out HB62.out)
      have HQ35_62 := Lib.hid (HQ35_61.out.new HB62.out)
      have HR35_62 := Lib.hid (PIo.new HR35_61.out HB62.out)
      have HQ35r_62 := Lib.hid (HQ35r_61.out.new HB62.out)
      have HR35r_62 := Lib.hid (PIo.new HR35r_61.out HB62.out)
      have HQ36_62 := Lib.hid (HQ36_61.out.new HB62.out)
      have HR36_62 := Lib.hid (PIo.new HR36_61.out HB62.out)
      have HQ37_62 := Lib.hid (HQ37_61.out.new HB62.out)
      have HR37_62 := Lib.hid (PIo.new HR37_61.out HB62.out)
      have HQsz_62 := Lib.hid (HQsz_61.out.new HB62.out)
      have HRsz_62 := Lib.hid (PIo.new HRsz_61.out HB62.out)
      have HW_62 := Lib.hid (bt HW_61.out HB62.out)
      clear HQ2_61 HR2_61 HQ4_61 HR4_61 HQ9_61 HR9_61 HQ35_61 HR35_61 HQ35r_61 HR35r_61 HQ36_61 HR36_61 HQ37_61 HR37_61 HQsz_61 HRsz_61 HW_61 a35r_62 b35r_62 asz_62 bsz_62 HB62
      go_wp2_with fail
      refine (lives_any w62).mono ?_
      rintro e w63 ⟨rfl, hb63⟩
      have HB63 := Lib.hid hb63
      clear hb63
      have HQ2_63 := Lib.hid (HQ2_62.out.new HB63.out)
      have HR2_63 := Lib.hid (PIo.new HR2_62.out HB63.out)
      have HQ4_63 := Lib.hid (HQ4_62.out.new HB63.out)
      have HR4_63 := Lib.hid (PIo.new HR4_62.out HB63.out)
      have HQ9_63 := Lib.hid (HQ9_62.out.new HB63.out)
      have HR9_63 := Lib.hid (PIo.new HR9_62.out HB63.out)
      have HQ35_63 := Lib.hid (HQ35_62.out.new HB63.out)
      have HR35_63 := Lib.hid (PIo.new HR35_62.out HB63.out)
      have HQ35r_63 := Lib.hid (HQ35r_62.out.new HB63.out)
      have HR35r_63 := Lib.hid (PIo.new HR35r_62.out HB63.out)
      have HQ36_63 := Lib.hid (HQ36_62.out.new HB63.out)
      have HR36_63 := Lib.hid (PIo.new HR36_62.out HB63.out)
      have HQ37_63 := Lib.hid (HQ37_62.out.new HB63.out)
      have HR37_63 := Lib.hid (PIo.new HR37_62.out HB63.out)
      have HQsz_63 := Lib.hid (HQsz_62.out.new HB63.out)
      have HRsz_63 := Lib.hid (PIo.new HRsz_62.out HB63.out)
      have HW_63 := Lib.hid (bt HW_62.out HB63.out)
      clear HQ2_62 HR2_62 HQ4_62 HR4_62 HQ9_62 HR9_62 HQ35_62 HR35_62 HQ35r_62 HR35r_62 HQ36_62 HR36_62 HQ37_62 HR37_62 HQsz_62 HRsz_62 HW_62 HB63
      go_wp2
      go_ret
      exact ⟨rfl, HW_63.out⟩
theorem wideRing_law (a0 : Option Addr) (len0 cap0 : Nat) (z0 : List Int) (w : World) (w0 : RowI .i64 w a0 len0 cap0 z0) :
    Calls Try.prog 8 #[.slice a0 len0 cap0] w fun e w' => e = .returned (.bool true) ∧ Below w.heap.size w w' := by
  obtain ⟨ls, h1, h2, h3, h4⟩ := w0.open_
  exact wideRing_walk ls a0 len0 cap0 w ⟨h4, by rw [h1]; exact h2, h3⟩
end Go.Proofs.Ytpcliampffeknaa
