/- The contract of the law's examples. -/
import Derived.Test.YtpcliampffeknaaNLa
namespace Go.Proofs.Ytpcliampffeknaa
open Go.RowKit
attribute [local go_sem ↓] Go.wp_at_zero Go.wp_at_succ

theorem dec_text {l : List UInt8} {n : Nat} (hv : dval l = n) (h : IsDig l) (hne : l ≠ []) (h0 : l.length = 1 ∨ l.getD 0 0 ≠ 48) : dec n = l := by
  rw [← hv]
  exact dec_dval h hne h0
theorem t_m4 : decI (-4) = [45, 52] := by
  rw [decI, if_pos (by decide), show (-4 : Int).natAbs = 4 from rfl, dec_lt (by decide)]
  rfl
theorem t_m3 : decI (-3) = [45, 51] := by
  rw [decI, if_pos (by decide), show (-3 : Int).natAbs = 3 from rfl, dec_lt (by decide)]
  rfl
theorem t_1 : decI 1 = [49] := by
  rw [decI, if_neg (by decide), show (1 : Int).natAbs = 1 from rfl, dec_lt (by decide)]
  rfl
theorem t_big : decI 18446744073709551616 = [49, 56, 52, 52, 54, 55, 52, 52, 48, 55, 51, 55, 48, 57, 53, 53, 49, 54, 49, 54] := by
  rw [decI, if_neg (by decide), show (18446744073709551616 : Int).natAbs = 18446744073709551616 from rfl]
  exact dec_text (by decide) (by unfold IsDig; decide) (by decide) (by decide)
theorem p_m0 : psV [45, 48] = 0 ∧ psC [45, 48] = 2 := by
  have h : ¬ isNum [45, 48] = true := by decide
  have h5 : ¬ 5000 < ([45, 48] : List UInt8).length := by decide
  unfold psV psC
  rw [if_neg h5, if_neg h5, if_neg h, if_neg h]
  exact ⟨rfl, rfl⟩
theorem p_01 : psV [48, 49] = 0 ∧ psC [48, 49] = 2 := by
  have h : ¬ isNum [48, 49] = true := by decide
  have h5 : ¬ 5000 < ([48, 49] : List UInt8).length := by decide
  unfold psV psC
  rw [if_neg h5, if_neg h5, if_neg h, if_neg h]
  exact ⟨rfl, rfl⟩
theorem lt_lim {v : Nat} (k : Nat) (h : v < 4294967296 ^ k) (hk : k ≤ limE) : v < lim := Nat.lt_of_lt_of_le h (Nat.pow_le_pow_right (by decide) hk)
theorem in_64 : outV 18446744073709551616 = 18446744073709551616 ∧ outC 18446744073709551616 = 0 := in_lim (lt_lim 3 (by decide) (by decide))
theorem bt {a b c : World} (h1 : Below a.heap.size a b) (h2 : Below b.heap.size b c) : Below a.heap.size a c := h1.trans (h2.mono h1.size)
theorem small_len {x : Int} {w : World} {s : Bool} {A : Option Addr} {n c : Nat} (h : PI w s A n c x) (hx : x.natAbs < 4294967296 ^ 3) : n ≤ 100000 := by
  rw [← h.2.1]
  exact Nat.le_trans (digs_len_le (k := 3) (by decide) hx) (by decide)
set_option maxRecDepth 100000 in
set_option maxHeartbeats 6400000 in
theorem lives_any (w : World) : Calls Try.prog 18 #[] w (RetB1 true w) := by
  go_enter Try.func18, Try.ntmps18
  go_wp2_with fail
  refine (from_any (-7) w (by decide)).mono ?_
  rintro e w1 ⟨s1, A1, n1, c1, rfl, hr1, hb1⟩
  have HR1 := Lib.hid hr1
  have HS1 := Lib.hid hb1
  have hn1 : n1 ≤ 100000 := small_len hr1 (by decide)
  clear hr1 hb1
  go_wp2_with fail
  refine (from_any (2) w1 (by decide)).mono ?_
  rintro e w2 ⟨s2, A2, n2, c2, rfl, hr2, hb2⟩
  have HR2 := Lib.hid hr2
  have HS2 := Lib.hid hb2
  have hn2 : n2 ≤ 100000 := small_len hr2 (by decide)
  clear hr2 hb2
  go_wp2_with fail
  refine (pdiv_any (-7) (2) s1 s2 A1 A2 n1 c1 n2 c2 w2 (PIo.new HR1.out HS2.out) HR2.out hn1 hn2 (by decide)).mono ?_
  rw [show ((-7 : Int) / (2)) = -4 by decide, show ((-7 : Int) % (2)) = 1 by decide]
  rintro e w3 ⟨s3, A3, n3, c3, t3, D3, m3, d3, rfl, hr3, hu3, hb3⟩
  have HR3 := Lib.hid hr3
  have HU3 := Lib.hid hu3
  have HS3 := Lib.hid hb3
  have hn3 : n3 ≤ 100000 := small_len hr3 (by decide)
  have hm3 : m3 ≤ 100000 := small_len hu3 (by decide)
  clear hr3 hu3 hb3
  have hX3 : (w3.alloc (.cells #[.bool s3, .slice A3 n3 c3] 33)).alloc (.cells #[.bool t3, .slice D3 m3 d3] 33) = W2 33 w3 (.bool s3) (.slice A3 n3 c3) (.bool t3) (.slice D3 m3 d3) := rfl
  obtain ⟨x3, hx3⟩ : ∃ x, W2 33 w3 (.bool s3) (.slice A3 n3 c3) (.bool t3) (.slice D3 m3 d3) = x := ⟨_, rfl⟩
  have HX3 := Lib.hid (show Below w3.heap.size w3 x3 by rw [← hx3]; exact W2_k _ _ _ _ _ _)
  have HQ3 := Lib.hid (show P2 33 x3 w3.heap.size (.bool s3) (.slice A3 n3 c3) by rw [← hx3]; exact W2_a _ _ _ _ _ _)
  have HZ3 := Lib.hid (show P2 33 x3 (w3.heap.size + 1) (.bool t3) (.slice D3 m3 d3) by rw [← hx3]; exact W2_z _ _ _ _ _ _)
  rw [hx3] at hX3
  clear hx3
  go_wp2_with fail
  refine (from_any (7) x3 (by decide)).mono ?_
  rintro e w4 ⟨s4, A4, n4, c4, rfl, hr4, hb4⟩
  have HR4 := Lib.hid hr4
  have HS4 := Lib.hid hb4
  have hn4 : n4 ≤ 100000 := small_len hr4 (by decide)
  clear hr4 hb4
  go_wp2_with fail
  refine (from_any (-2) w4 (by decide)).mono ?_
  rintro e w5 ⟨s5, A5, n5, c5, rfl, hr5, hb5⟩
  have HR5 := Lib.hid hr5
  have HS5 := Lib.hid hb5
  have hn5 : n5 ≤ 100000 := small_len hr5 (by decide)
  clear hr5 hb5
  go_wp2_with fail
  refine (pdiv_any (7) (-2) s4 s5 A4 A5 n4 c4 n5 c5 w5 (PIo.new HR4.out HS5.out) HR5.out hn4 hn5 (by decide)).mono ?_
  rw [show ((7 : Int) / (-2)) = -3 by decide, show ((7 : Int) % (-2)) = 1 by decide]
  rintro e w6 ⟨s6, A6, n6, c6, t6, D6, m6, d6, rfl, hr6, hu6, hb6⟩
  have HR6 := Lib.hid hr6
  have HU6 := Lib.hid hu6
  have HS6 := Lib.hid hb6
  have hn6 : n6 ≤ 100000 := small_len hr6 (by decide)
  have hm6 : m6 ≤ 100000 := small_len hu6 (by decide)
  clear hr6 hu6 hb6
  have hX6 : (w6.alloc (.cells #[.bool s6, .slice A6 n6 c6] 33)).alloc (.cells #[.bool t6, .slice D6 m6 d6] 33) = W2 33 w6 (.bool s6) (.slice A6 n6 c6) (.bool t6) (.slice D6 m6 d6) := rfl
  obtain ⟨x6, hx6⟩ : ∃ x, W2 33 w6 (.bool s6) (.slice A6 n6 c6) (.bool t6) (.slice D6 m6 d6) = x := ⟨_, rfl⟩
  have HX6 := Lib.hid (show Below w6.heap.size w6 x6 by rw [← hx6]; exact W2_k _ _ _ _ _ _)
  have HQ6 := Lib.hid (show P2 33 x6 w6.heap.size (.bool s6) (.slice A6 n6 c6) by rw [← hx6]; exact W2_a _ _ _ _ _ _)
  have HZ6 := Lib.hid (show P2 33 x6 (w6.heap.size + 1) (.bool t6) (.slice D6 m6 d6) by rw [← hx6]; exact W2_z _ _ _ _ _ _)
  rw [hx6] at hX6
  clear hx6
  go_wp2_with fail
  refine (from_any (4294967296) x6 (by decide)).mono ?_
  rintro e w7 ⟨s7, A7, n7, c7, rfl, hr7, hb7⟩
  have HR7 := Lib.hid hr7
  have HS7 := Lib.hid hb7
  have hn7 : n7 ≤ 100000 := small_len hr7 (by decide)
  clear hr7 hb7
  go_wp2_with fail
  refine (from_any (4294967296) w7 (by decide)).mono ?_
  rintro e w8 ⟨s8, A8, n8, c8, rfl, hr8, hb8⟩
  have HR8 := Lib.hid hr8
  have HS8 := Lib.hid hb8
  have hn8 : n8 ≤ 100000 := small_len hr8 (by decide)
  clear hr8 hb8
  go_wp2_with fail
  refine (pmul_any 4294967296 4294967296 s7 s8 A7 A8 n7 c7 n8 c8 w8 (PIo.new HR7.out HS8.out) HR8.out (by omega) (by omega)).mono ?_
  rw [show ((4294967296 : Int) * 4294967296) = 18446744073709551616 by decide, in_64.1, in_64.2]
  rintro e w9 ⟨s9, A9, n9, c9, rfl, hr9, hb9⟩
  have HR9 := Lib.hid hr9
  have HS9 := Lib.hid hb9
  have hn9 : n9 ≤ 100000 := small_len hr9 (by decide)
  clear hr9 hb9
  obtain ⟨x9, hx9⟩ : ∃ x, w9.alloc (.cells #[.bool s9, .slice A9 n9 c9] 33) = x := ⟨_, rfl⟩
  have HX9 := Lib.hid (show Below w9.heap.size w9 x9 by rw [← hx9]; exact (Below.refl _ w9).alloc (Nat.le_refl _) _)
  have HQ9 := Lib.hid (show P2 33 x9 w9.heap.size (.bool s9) (.slice A9 n9 c9) by rw [← hx9]; exact P2.lit _ _ _ _)
  obtain ⟨p90, p91⟩ := HQ9.out.cells
  go_wp2_with fail
  refine (psmall_any 18446744073709551616 s9 A9 n9 c9 x9 (PIo.new HR9.out HX9.out) (by omega)).mono ?_
  rintro e w10 ⟨he10, hb10⟩
  rw [show isSm 18446744073709551616 = false by decide] at he10
  generalize smV 18446744073709551616 = v10 at he10
  subst he10
  have HS10 := Lib.hid hb10
  clear hb10 hx9 hX3 hX6 p90 p91
  go_wp2_with fail
  refine (pparse_any [45, 48] w10 (by decide)).mono ?_
  rw [p_m0.1, p_m0.2]
  rintro e w11 ⟨s11, A11, n11, c11, rfl, hr11, hb11⟩
  have HS11 := Lib.hid hb11
  clear hr11 hb11
  obtain ⟨x11, hx11⟩ : ∃ x, w11.alloc (.cells #[.bool s11, .slice A11 n11 c11] 33) = x := ⟨_, rfl⟩
  have HX11 := Lib.hid (show Below w11.heap.size w11 x11 by rw [← hx11]; exact (Below.refl _ w11).alloc (Nat.le_refl _) _)
  go_wp2_with fail
  refine (pparse_any [48, 49] x11 (by decide)).mono ?_
  rw [p_01.1, p_01.2]
  rintro e w12 ⟨s12, A12, n12, c12, rfl, hr12, hb12⟩
  have HS12 := Lib.hid hb12
  clear hr12 hb12 hx11
  obtain ⟨x12, hx12⟩ : ∃ x, w12.alloc (.cells #[.bool s12, .slice A12 n12 c12] 33) = x := ⟨_, rfl⟩
  have HX12 := Lib.hid (show Below w12.heap.size w12 x12 by rw [← hx12]; exact (Below.refl _ w12).alloc (Nat.le_refl _) _)
  have Z1 := bt (bt (bt (bt HS10.out HS11.out) HX11.out) HS12.out) HX12.out
  have Z9 := Lib.hid (bt HX9.out Z1)
  have Z6 := Lib.hid (bt (bt (bt (bt HX6.out HS7.out) HS8.out) HS9.out) Z9.out)
  have Z3 := Lib.hid (bt (bt (bt (bt HX3.out HS4.out) HS5.out) HS6.out) Z6.out)
  have Z0 := Lib.hid (bt (bt (bt HS1.out HS2.out) HS3.out) Z3.out)
  have Q3 := Lib.hid (HQ3.out.new (bt (bt (bt (bt HS4.out HS5.out) HS6.out) Z6.out) (Below.refl _ _)))
  have U3 := Lib.hid (HZ3.out.new (bt (bt (bt HS4.out HS5.out) HS6.out) Z6.out))
  have Q6 := Lib.hid (HQ6.out.new (bt (bt (bt HS7.out HS8.out) HS9.out) Z9.out))
  have U6 := Lib.hid (HZ6.out.new (bt (bt (bt HS7.out HS8.out) HS9.out) Z9.out))
  have Q9 := Lib.hid (HQ9.out.new Z1)
  have P3 := Lib.hid (PIo.new HR3.out Z3.out)
  have O3 := Lib.hid (PIo.new HU3.out Z3.out)
  have P6 := Lib.hid (PIo.new HR6.out Z6.out)
  have O6 := Lib.hid (PIo.new HU6.out Z6.out)
  have P9 := Lib.hid (PIo.new HR9.out Z9.out)
  clear Z1 HS10 HS11 HX11 HS12 HX12 Z9 Z6 Z3 HX9 HX6 HX3 HS1 HS2 HS3 HS4 HS5 HS6 HS7 HS8 HS9 HQ3 HZ3 HQ6 HZ6 HQ9 HR3 HU3 HR6 HU6 HR9 HR1 HR2 HR4 HR5 HR7 HR8
  obtain ⟨e21, f21⟩ := (Q3.out).cells
  go_wp2_with fail
  refine (pstring_any (-4) s3 A3 n3 c3 x12 P3.out (by omega)).mono ?_
  rw [t_m4]
  rintro e y21 ⟨rfl, hb21⟩
  have HY21 := Lib.hid hb21
  clear hb21 e21 f21 hx12
  obtain ⟨e22, f22⟩ := (U3.out.new HY21.out).cells
  go_wp2_with fail
  refine (pstring_any (1) t3 D3 m3 d3 y21 (PIo.new O3.out HY21.out) (by omega)).mono ?_
  rw [t_1]
  rintro e y22 ⟨rfl, hb22⟩
  have HY22 := Lib.hid (bt HY21.out hb22)
  clear hb22 e22 f22
  obtain ⟨e23, f23⟩ := (Q6.out.new HY22.out).cells
  go_wp2_with fail
  refine (pstring_any (-3) s6 A6 n6 c6 y22 (PIo.new P6.out HY22.out) (by omega)).mono ?_
  rw [t_m3]
  rintro e y23 ⟨rfl, hb23⟩
  have HY23 := Lib.hid (bt HY22.out hb23)
  clear hb23 e23 f23
  obtain ⟨e24, f24⟩ := (U6.out.new HY23.out).cells
  go_wp2_with fail
  refine (pstring_any (1) t6 D6 m6 d6 y23 (PIo.new O6.out HY23.out) (by omega)).mono ?_
  rw [t_1]
  rintro e y24 ⟨rfl, hb24⟩
  have HY24 := Lib.hid (bt HY23.out hb24)
  clear hb24 e24 f24
  obtain ⟨e25, f25⟩ := (Q9.out.new HY24.out).cells
  go_wp2_with fail
  refine (pstring_any (18446744073709551616) s9 A9 n9 c9 y24 (PIo.new P9.out HY24.out) (by omega)).mono ?_
  rw [t_big]
  rintro e y25 ⟨rfl, hb25⟩
  have HY25 := Lib.hid (bt HY24.out hb25)
  clear hb25 e25 f25
  go_wp2_with fail
  go_ret
  exact ⟨rfl, bt Z0.out HY25.out⟩
end Go.Proofs.Ytpcliampffeknaa
