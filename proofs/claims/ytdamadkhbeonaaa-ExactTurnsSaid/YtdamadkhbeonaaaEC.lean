/- Contracts of the reference: Direction, quarter, Order, Turn, Sector, Dir, Bent. Conditions: as each statement has them. -/
import Derived.Test.YtdamadkhbeonaaaAK
import Derived.Test.YtdamadkhbeonaaaEM
namespace Go.Proofs.Ytdamadkhbeonaaa
open Go.RowKit
attribute [local go_sem ↓] Go.wp_at_zero Go.wp_at_succ
set_option linter.unusedVariables false
set_option linter.unusedSimpArgs false
theorem nk4 {x : Int} (h : -4 ≤ x ∧ x ≤ 4) : Nk 4 x := h
theorem di_ord {a b c d : Int} (h : Di a b) (h' : Di c d) : I6 (a * d) ∧ I6 (b * c) ∧ I6 (a * d - b * c) :=
 have h1 := nk_mul (nk4 h.1) (nk4 h'.2.1)
 have h2 := nk_mul (nk4 h.2.1) (nk4 h'.1)
 ⟨nk_i6 h1 (by decide), nk_i6 h2 (by decide), nk_i6 (nk_sub h1 h2) (by decide)⟩
set_option maxRecDepth 100000 in
set_option maxHeartbeats 1600000 in
theorem rdir_any (x y : Int) (w : World) :
  Calls Try.prog 17 #[.agg #[.int .i64 x, .int .i64 y]] w fun e w' => e = .returned (.int .i64 (diE x y)) ∧ Below w.heap.size w w' := by
 rcases (show x < -2147483648 ∨ (¬ x < -2147483648 ∧ 2147483648 < x) ∨ (¬ x < -2147483648 ∧ ¬ 2147483648 < x ∧ y < -2147483648) ∨ (¬ x < -2147483648 ∧ ¬ 2147483648 < x ∧ ¬ y < -2147483648 ∧ 2147483648 < y) ∨ (x = 0 ∧ y = 0) ∨ (x = 0 ∧ ¬ y < -2147483648 ∧ ¬ 2147483648 < y ∧ ¬ y = 0) ∨ (¬ x < -2147483648 ∧ ¬ 2147483648 < x ∧ ¬ y < -2147483648 ∧ ¬ 2147483648 < y ∧ ¬ x = 0) by omega) with q | ⟨q, q2⟩ | ⟨q, q2, q3⟩ | ⟨q, q2, q3, q4⟩ | ⟨rfl, rfl⟩ | ⟨rfl, q, q2, q3⟩ | ⟨q, q2, q3, q4, q5⟩
 ·have HV := hJ (show diE x y = 5 from if_pos (by omega))
  obtain ⟨x1, hx1⟩ := nmz (w.alloc (.cells #[.int .i64 x, .int .i64 y] 25))
  have HB1 := hJ (show Below w.heap.size w x1 by rw [← hx1]; exact ((Below.refl _ _).alloc (Nat.le_refl _) _))
  have HQ1x0 := hJ (show BX 25 x1 w.heap.size #[.int .i64 x, .int .i64 y] by rw [← hx1]; exact (BX.at rfl))
  have HG1x0 := hJ (show w.heap.size ≤ w.heap.size by omega)
  have HL1x0 := hJ (show w.heap.size < x1.heap.size from HQ1x0.out.lt)
  have cl2 := HQ1x0.out.cell 0 rfl
  go_enter Try.func17, Try.ntmps17
  go_wp2
  clear hx1 cl2
  go_ret
  exact ⟨by rw [HV.out] <;> rfl, HB1.out⟩
 ·have HV := hJ (show diE x y = 5 from if_pos (by omega))
  obtain ⟨x3, hx3⟩ := nmz (w.alloc (.cells #[.int .i64 x, .int .i64 y] 25))
  have HB3 := hJ (show Below w.heap.size w x3 by rw [← hx3]; exact ((Below.refl _ _).alloc (Nat.le_refl _) _))
  have HQ3x0 := hJ (show BX 25 x3 w.heap.size #[.int .i64 x, .int .i64 y] by rw [← hx3]; exact (BX.at rfl))
  have HG3x0 := hJ (show w.heap.size ≤ w.heap.size by omega)
  have HL3x0 := hJ (show w.heap.size < x3.heap.size from HQ3x0.out.lt)
  have cl4 := HQ3x0.out.cell 0 rfl
  have cl5 := HQ3x0.out.cell 0 rfl
  go_enter Try.func17, Try.ntmps17
  go_wp2
  clear hx3 cl4 cl5
  go_ret
  exact ⟨by rw [HV.out] <;> rfl, HB3.out⟩
 ·have HV := hJ (show diE x y = 5 from if_pos (by omega))
  obtain ⟨x6, hx6⟩ := nmz (w.alloc (.cells #[.int .i64 x, .int .i64 y] 25))
  have HB6 := hJ (show Below w.heap.size w x6 by rw [← hx6]; exact ((Below.refl _ _).alloc (Nat.le_refl _) _))
  have HQ6x0 := hJ (show BX 25 x6 w.heap.size #[.int .i64 x, .int .i64 y] by rw [← hx6]; exact (BX.at rfl))
  have HG6x0 := hJ (show w.heap.size ≤ w.heap.size by omega)
  have HL6x0 := hJ (show w.heap.size < x6.heap.size from HQ6x0.out.lt)
  have cl7 := HQ6x0.out.cell 0 rfl
  have cl8 := HQ6x0.out.cell 0 rfl
  have cl9 := HQ6x0.out.cell 1 rfl
  go_enter Try.func17, Try.ntmps17
  go_wp2
  clear hx6 cl7 cl8 cl9
  go_ret
  exact ⟨by rw [HV.out] <;> rfl, HB6.out⟩
 ·have HV := hJ (show diE x y = 5 from if_pos (by omega))
  obtain ⟨x10, hx10⟩ := nmz (w.alloc (.cells #[.int .i64 x, .int .i64 y] 25))
  have HB10 := hJ (show Below w.heap.size w x10 by rw [← hx10]; exact ((Below.refl _ _).alloc (Nat.le_refl _) _))
  have HQ10x0 := hJ (show BX 25 x10 w.heap.size #[.int .i64 x, .int .i64 y] by rw [← hx10]; exact (BX.at rfl))
  have HG10x0 := hJ (show w.heap.size ≤ w.heap.size by omega)
  have HL10x0 := hJ (show w.heap.size < x10.heap.size from HQ10x0.out.lt)
  have cl11 := HQ10x0.out.cell 0 rfl
  have cl12 := HQ10x0.out.cell 0 rfl
  have cl13 := HQ10x0.out.cell 1 rfl
  have cl14 := HQ10x0.out.cell 1 rfl
  go_enter Try.func17, Try.ntmps17
  go_wp2
  clear hx10 cl11 cl12 cl13 cl14
  go_ret
  exact ⟨by rw [HV.out] <;> rfl, HB10.out⟩
 ·have HV := hJ (show diE 0 0 = 1 by decide)
  obtain ⟨x15, hx15⟩ := nmz (w.alloc (.cells #[.int .i64 0, .int .i64 0] 25))
  have HB15 := hJ (show Below w.heap.size w x15 by rw [← hx15]; exact ((Below.refl _ _).alloc (Nat.le_refl _) _))
  have HQ15x0 := hJ (show BX 25 x15 w.heap.size #[.int .i64 0, .int .i64 0] by rw [← hx15]; exact (BX.at rfl))
  have HG15x0 := hJ (show w.heap.size ≤ w.heap.size by omega)
  have HL15x0 := hJ (show w.heap.size < x15.heap.size from HQ15x0.out.lt)
  have cl16 := HQ15x0.out.cell 0 rfl
  have cl17 := HQ15x0.out.cell 0 rfl
  have cl18 := HQ15x0.out.cell 1 rfl
  have cl19 := HQ15x0.out.cell 1 rfl
  have cl20 := HQ15x0.out.cell 0 rfl
  have cl21 := HQ15x0.out.cell 1 rfl
  go_enter Try.func17, Try.ntmps17
  go_wp2
  clear hx15 cl16 cl17 cl18 cl19 cl20 cl21
  go_ret
  exact ⟨by rw [HV.out] <;> rfl, HB15.out⟩
 ·have HV := hJ (show diE 0 y = 0 from (if_neg (by omega)).trans (if_neg (by omega)))
  have q4 : (y == 0) = false := by simp [q3]
  clear q3
  obtain ⟨x22, hx22⟩ := nmz (w.alloc (.cells #[.int .i64 0, .int .i64 y] 25))
  have HB22 := hJ (show Below w.heap.size w x22 by rw [← hx22]; exact ((Below.refl _ _).alloc (Nat.le_refl _) _))
  have HQ22x0 := hJ (show BX 25 x22 w.heap.size #[.int .i64 0, .int .i64 y] by rw [← hx22]; exact (BX.at rfl))
  have HG22x0 := hJ (show w.heap.size ≤ w.heap.size by omega)
  have HL22x0 := hJ (show w.heap.size < x22.heap.size from HQ22x0.out.lt)
  have cl23 := HQ22x0.out.cell 0 rfl
  have cl24 := HQ22x0.out.cell 0 rfl
  have cl25 := HQ22x0.out.cell 1 rfl
  have cl26 := HQ22x0.out.cell 1 rfl
  have cl27 := HQ22x0.out.cell 0 rfl
  have cl28 := HQ22x0.out.cell 1 rfl
  go_enter Try.func17, Try.ntmps17
  go_wp2
  clear hx22 cl23 cl24 cl25 cl26 cl27 cl28
  go_ret
  exact ⟨by rw [HV.out] <;> rfl, HB22.out⟩
 ·have HV := hJ (show diE x y = 0 from (if_neg (by omega)).trans (if_neg (by omega)))
  have q6 : (x == 0) = false := by simp [q5]
  clear q5
  obtain ⟨x29, hx29⟩ := nmz (w.alloc (.cells #[.int .i64 x, .int .i64 y] 25))
  have HB29 := hJ (show Below w.heap.size w x29 by rw [← hx29]; exact ((Below.refl _ _).alloc (Nat.le_refl _) _))
  have HQ29x0 := hJ (show BX 25 x29 w.heap.size #[.int .i64 x, .int .i64 y] by rw [← hx29]; exact (BX.at rfl))
  have HG29x0 := hJ (show w.heap.size ≤ w.heap.size by omega)
  have HL29x0 := hJ (show w.heap.size < x29.heap.size from HQ29x0.out.lt)
  have cl30 := HQ29x0.out.cell 0 rfl
  have cl31 := HQ29x0.out.cell 0 rfl
  have cl32 := HQ29x0.out.cell 1 rfl
  have cl33 := HQ29x0.out.cell 1 rfl
  have cl34 := HQ29x0.out.cell 0 rfl
  go_enter Try.func17, Try.ntmps17
  go_wp2
  clear hx29 cl30 cl31 cl32 cl33 cl34
  go_ret
  exact ⟨by rw [HV.out] <;> rfl, HB29.out⟩
set_option maxRecDepth 100000 in
set_option maxHeartbeats 1600000 in
theorem quarter_any (x y : Int) (w : World) :
  Calls Try.prog 51 #[.agg #[.int .i64 x, .int .i64 y]] w fun e w' => e = .returned (.int .i64 (quV x y)) ∧ Below w.heap.size w w' := by
 rcases (show (0 < x ∧ 0 ≤ y) ∨ (0 < x ∧ ¬ 0 ≤ y) ∨ (x ≤ 0 ∧ 0 < y) ∨ (x < 0 ∧ y ≤ 0) ∨ (x = 0 ∧ y ≤ 0) by omega) with ⟨q, q2⟩ | ⟨q, q2⟩ | ⟨q, q2⟩ | ⟨q, q2⟩ | ⟨rfl, q2⟩
 ·have HV := hJ (show quV x y = 0 by unfold quV; repeat (first | rw [if_pos (by omega)] | rw [if_neg (by omega)]))
  obtain ⟨x1, hx1⟩ := nmz (w.alloc (.cells #[.int .i64 x, .int .i64 y] 25))
  have HB1 := hJ (show Below w.heap.size w x1 by rw [← hx1]; exact ((Below.refl _ _).alloc (Nat.le_refl _) _))
  have HQ1x0 := hJ (show BX 25 x1 w.heap.size #[.int .i64 x, .int .i64 y] by rw [← hx1]; exact (BX.at rfl))
  have HG1x0 := hJ (show w.heap.size ≤ w.heap.size by omega)
  have HL1x0 := hJ (show w.heap.size < x1.heap.size from HQ1x0.out.lt)
  have cl2 := HQ1x0.out.cell 0 rfl
  have cl3 := HQ1x0.out.cell 1 rfl
  go_enter Try.func51, Try.ntmps51
  go_wp2
  clear hx1 cl2 cl3
  go_ret
  exact ⟨by rw [HV.out] <;> rfl, HB1.out⟩
 ·have HV := hJ (show quV x y = 3 by unfold quV; repeat (first | rw [if_pos (by omega)] | rw [if_neg (by omega)]))
  have q3 : y < 0 := by omega
  clear q2
  obtain ⟨x4, hx4⟩ := nmz (w.alloc (.cells #[.int .i64 x, .int .i64 y] 25))
  have HB4 := hJ (show Below w.heap.size w x4 by rw [← hx4]; exact ((Below.refl _ _).alloc (Nat.le_refl _) _))
  have HQ4x0 := hJ (show BX 25 x4 w.heap.size #[.int .i64 x, .int .i64 y] by rw [← hx4]; exact (BX.at rfl))
  have HG4x0 := hJ (show w.heap.size ≤ w.heap.size by omega)
  have HL4x0 := hJ (show w.heap.size < x4.heap.size from HQ4x0.out.lt)
  have cl5 := HQ4x0.out.cell 0 rfl
  have cl6 := HQ4x0.out.cell 1 rfl
  have cl7 := HQ4x0.out.cell 0 rfl
  have cl8 := HQ4x0.out.cell 0 rfl
  go_enter Try.func51, Try.ntmps51
  go_wp2
  clear hx4 cl5 cl6 cl7 cl8
  go_ret
  exact ⟨by rw [HV.out] <;> rfl, HB4.out⟩
 ·have HV := hJ (show quV x y = 1 by unfold quV; repeat (first | rw [if_pos (by omega)] | rw [if_neg (by omega)]))
  obtain ⟨x9, hx9⟩ := nmz (w.alloc (.cells #[.int .i64 x, .int .i64 y] 25))
  have HB9 := hJ (show Below w.heap.size w x9 by rw [← hx9]; exact ((Below.refl _ _).alloc (Nat.le_refl _) _))
  have HQ9x0 := hJ (show BX 25 x9 w.heap.size #[.int .i64 x, .int .i64 y] by rw [← hx9]; exact (BX.at rfl))
  have HG9x0 := hJ (show w.heap.size ≤ w.heap.size by omega)
  have HL9x0 := hJ (show w.heap.size < x9.heap.size from HQ9x0.out.lt)
  have cl10 := HQ9x0.out.cell 0 rfl
  have cl11 := HQ9x0.out.cell 0 rfl
  have cl12 := HQ9x0.out.cell 1 rfl
  go_enter Try.func51, Try.ntmps51
  go_wp2
  clear hx9 cl10 cl11 cl12
  go_ret
  exact ⟨by rw [HV.out] <;> rfl, HB9.out⟩
 ·have HV := hJ (show quV x y = 2 by unfold quV; repeat (first | rw [if_pos (by omega)] | rw [if_neg (by omega)]))
  obtain ⟨x13, hx13⟩ := nmz (w.alloc (.cells #[.int .i64 x, .int .i64 y] 25))
  have HB13 := hJ (show Below w.heap.size w x13 by rw [← hx13]; exact ((Below.refl _ _).alloc (Nat.le_refl _) _))
  have HQ13x0 := hJ (show BX 25 x13 w.heap.size #[.int .i64 x, .int .i64 y] by rw [← hx13]; exact (BX.at rfl))
  have HG13x0 := hJ (show w.heap.size ≤ w.heap.size by omega)
  have HL13x0 := hJ (show w.heap.size < x13.heap.size from HQ13x0.out.lt)
  have cl14 := HQ13x0.out.cell 0 rfl
  have cl15 := HQ13x0.out.cell 0 rfl
  have cl16 := HQ13x0.out.cell 1 rfl
  have cl17 := HQ13x0.out.cell 0 rfl
  have cl18 := HQ13x0.out.cell 1 rfl
  go_enter Try.func51, Try.ntmps51
  go_wp2
  clear hx13 cl14 cl15 cl16 cl17 cl18
  go_ret
  exact ⟨by rw [HV.out] <;> rfl, HB13.out⟩
 ·have HV := hJ (show quV 0 y = 3 by unfold quV; repeat (first | rw [if_pos (by omega)] | rw [if_neg (by omega)]))
  obtain ⟨x19, hx19⟩ := nmz (w.alloc (.cells #[.int .i64 0, .int .i64 y] 25))
  have HB19 := hJ (show Below w.heap.size w x19 by rw [← hx19]; exact ((Below.refl _ _).alloc (Nat.le_refl _) _))
  have HQ19x0 := hJ (show BX 25 x19 w.heap.size #[.int .i64 0, .int .i64 y] by rw [← hx19]; exact (BX.at rfl))
  have HG19x0 := hJ (show w.heap.size ≤ w.heap.size by omega)
  have HL19x0 := hJ (show w.heap.size < x19.heap.size from HQ19x0.out.lt)
  have cl20 := HQ19x0.out.cell 0 rfl
  have cl21 := HQ19x0.out.cell 0 rfl
  have cl22 := HQ19x0.out.cell 1 rfl
  have cl23 := HQ19x0.out.cell 0 rfl
  go_enter Try.func51, Try.ntmps51
  go_wp2
  clear hx19 cl20 cl21 cl22 cl23
  go_ret
  exact ⟨by rw [HV.out] <;> rfl, HB19.out⟩
set_option maxRecDepth 100000 in
set_option maxHeartbeats 1600000 in
theorem order_any (a b c d : Int) (w : World) (h : I6 (a * d) ∧ I6 (b * c) ∧ I6 (a * d - b * c)) :
  Calls Try.prog 31 #[.agg #[.int .i64 a, .int .i64 b], .agg #[.int .i64 c, .int .i64 d]] w fun e w' => e = .returned (.int .i64 (ordV a b c d)) ∧ Below w.heap.size w w' := by
 have HW := hJ h
 clear h
 obtain ⟨p, hp⟩ := nmz (quV a b)
 obtain ⟨q, hq⟩ := nmz (quV c d)
 obtain ⟨n, hn⟩ := nmz (a * d - b * c)
 have HP := hJ hp
 have HQ := hJ hq
 have HN := hJ hn
 have HNW := hJ (show IntKind.i64.wrap (a * d - b * c) = n by rw [hn]; exact i6_wrap (by rw [← hn]; exact HW.out.2.2))
 clear hp hq hn
 obtain ⟨x1, hx1⟩ := nmz ((w.alloc (.cells #[.int .i64 a, .int .i64 b] 25)).alloc (.cells #[.int .i64 c, .int .i64 d] 25))
 have HB1 := hJ (show Below w.heap.size w x1 by rw [← hx1]; exact (((Below.refl _ _).alloc (Nat.le_refl _) _).alloc (by simp only [World.size_alloc]; omega) _))
 have HQ1x0 := hJ (show BX 25 x1 w.heap.size #[.int .i64 a, .int .i64 b] by rw [← hx1]; exact ((BX.at rfl).alloc _))
 have HG1x0 := hJ (show w.heap.size ≤ w.heap.size by omega)
 have HL1x0 := hJ (show w.heap.size < x1.heap.size from HQ1x0.out.lt)
 have HQ1x1 := hJ (show BX 25 x1 (w.heap.size + 1) #[.int .i64 c, .int .i64 d] by rw [← hx1]; exact (BX.at (by simp only [World.size_alloc])))
 have HG1x1 := hJ (show w.heap.size ≤ w.heap.size + 1 by omega)
 have HL1x1 := hJ (show w.heap.size + 1 < x1.heap.size from HQ1x1.out.lt)
 obtain ⟨cl2, cl3⟩ := HQ1x0.out.c2 0 1 rfl rfl
 go_enter Try.func31, Try.ntmps31
 go_wp2_with fail
 clear hx1 cl2 cl3
 refine (quarter_any a b x1).mono ?_
 rw [HP.out]
 rintro e w4 ⟨rfl, hb⟩
 have HB4 := hJ hb
 clear hb
 have HQ1x1w2 := hJ (BX.new HQ1x1.out HB4.out)
 obtain ⟨cl5, cl6⟩ := HQ1x1w2.out.c2 0 1 rfl rfl
 go_wp2_with fail
 clear cl5 cl6
 refine (quarter_any c d w4).mono ?_
 rw [HQ.out]
 rintro e w7 ⟨rfl, hb⟩
 have HB7 := hJ hb
 clear hb
 rcases (show p < q ∨ q < p ∨ (p = q ∧ 0 < n) ∨ (p = q ∧ n < 0) ∨ (p = q ∧ n = 0) by omega) with q1 | q1 | ⟨q1, q2⟩ | ⟨q1, q2⟩ | ⟨q1, q2⟩
 ·have HV := hJ (show ordV a b c d = -1 by unfold ordV; rw [HP.out, HQ.out, HN.out]; repeat (first | rw [if_pos (by omega)] | rw [if_neg (by omega)]))
  have HC0_3 := hJ (bt (bt HB1.out HB4.out) HB7.out)
  go_wp2
  go_ret
  exact ⟨by rw [HV.out] <;> rfl, HC0_3.out⟩
 ·have HV := hJ (show ordV a b c d = 1 by unfold ordV; rw [HP.out, HQ.out, HN.out]; repeat (first | rw [if_pos (by omega)] | rw [if_neg (by omega)]))
  have HC0_3 := hJ (bt (bt HB1.out HB4.out) HB7.out)
  go_wp2
  go_ret
  exact ⟨by rw [HV.out] <;> rfl, HC0_3.out⟩
 ·have HV := hJ (show ordV a b c d = -1 by unfold ordV; rw [HP.out, HQ.out, HN.out]; repeat (first | rw [if_pos (by omega)] | rw [if_neg (by omega)]))
  subst q1
  have HC1_3 := hJ (bt HB4.out HB7.out)
  have HQ1x0w3 := hJ (BX.new HQ1x0.out HC1_3.out)
  have cl8 := HQ1x0w3.out.cell 0 rfl
  have HQ1x1w3 := hJ (BX.new HQ1x1w2.out HB7.out)
  have cl9 := HQ1x1w3.out.cell 1 rfl
  have ew7_4 : IntKind.i64.wrap (a * d) = a * d := i6_wrap HW.out.1
  have cl10 := HQ1x0w3.out.cell 1 rfl
  have cl11 := HQ1x1w3.out.cell 0 rfl
  have ew7_9 : IntKind.i64.wrap (b * c) = b * c := i6_wrap HW.out.2.1
  have ew7_10 := HNW.out
  have HC0_3 := hJ (bt (bt HB1.out HB4.out) HB7.out)
  go_wp2
  clear cl8 cl9 ew7_4 cl10 cl11 ew7_9 ew7_10
  go_ret
  exact ⟨by rw [HV.out] <;> rfl, HC0_3.out⟩
 ·have HV := hJ (show ordV a b c d = 1 by unfold ordV; rw [HP.out, HQ.out, HN.out]; repeat (first | rw [if_pos (by omega)] | rw [if_neg (by omega)]))
  subst q1
  have HC1_3 := hJ (bt HB4.out HB7.out)
  have HQ1x0w3 := hJ (BX.new HQ1x0.out HC1_3.out)
  have cl12 := HQ1x0w3.out.cell 0 rfl
  have HQ1x1w3 := hJ (BX.new HQ1x1w2.out HB7.out)
  have cl13 := HQ1x1w3.out.cell 1 rfl
  have ew7_4 : IntKind.i64.wrap (a * d) = a * d := i6_wrap HW.out.1
  have cl14 := HQ1x0w3.out.cell 1 rfl
  have cl15 := HQ1x1w3.out.cell 0 rfl
  have ew7_9 : IntKind.i64.wrap (b * c) = b * c := i6_wrap HW.out.2.1
  have ew7_10 := HNW.out
  have HC0_3 := hJ (bt (bt HB1.out HB4.out) HB7.out)
  go_wp2
  clear cl12 cl13 ew7_4 cl14 cl15 ew7_9 ew7_10
  go_ret
  exact ⟨by rw [HV.out] <;> rfl, HC0_3.out⟩
 ·have HV := hJ (show ordV a b c d = 0 by unfold ordV; rw [HP.out, HQ.out, HN.out]; repeat (first | rw [if_pos (by omega)] | rw [if_neg (by omega)]))
  subst q1
  subst q2
  have HC1_3 := hJ (bt HB4.out HB7.out)
  have HQ1x0w3 := hJ (BX.new HQ1x0.out HC1_3.out)
  have cl16 := HQ1x0w3.out.cell 0 rfl
  have HQ1x1w3 := hJ (BX.new HQ1x1w2.out HB7.out)
  have cl17 := HQ1x1w3.out.cell 1 rfl
  have ew7_4 : IntKind.i64.wrap (a * d) = a * d := i6_wrap HW.out.1
  have cl18 := HQ1x0w3.out.cell 1 rfl
  have cl19 := HQ1x1w3.out.cell 0 rfl
  have ew7_9 : IntKind.i64.wrap (b * c) = b * c := i6_wrap HW.out.2.1
  have ew7_10 := HNW.out
  have HC0_3 := hJ (bt (bt HB1.out HB4.out) HB7.out)
  go_wp2
  clear cl16 cl17 ew7_4 cl18 cl19 ew7_9 ew7_10
  go_ret
  exact ⟨by rw [HV.out] <;> rfl, HC0_3.out⟩
set_option maxRecDepth 100000 in
set_option maxHeartbeats 1600000 in
theorem rturn_any (a b c d : Int) (w : World) (h : Di a b) (h' : Di c d) :
  Calls Try.prog 18 #[.agg #[.int .i64 a, .int .i64 b], .agg #[.int .i64 c, .int .i64 d]] w fun e w' => e = .returned (.tuple #[.int .i64 (ordV a b c d), .int .i64 0]) ∧ Below w.heap.size w w' := by
 have HA := hJ h
 have HB := hJ h'
 clear h h'
 obtain ⟨x1, hx1⟩ := nmz ((w.alloc (.cells #[.int .i64 a, .int .i64 b] 25)).alloc (.cells #[.int .i64 c, .int .i64 d] 25))
 have HB1 := hJ (show Below w.heap.size w x1 by rw [← hx1]; exact (((Below.refl _ _).alloc (Nat.le_refl _) _).alloc (by simp only [World.size_alloc]; omega) _))
 have HQ1x0 := hJ (show BX 25 x1 w.heap.size #[.int .i64 a, .int .i64 b] by rw [← hx1]; exact ((BX.at rfl).alloc _))
 have HG1x0 := hJ (show w.heap.size ≤ w.heap.size by omega)
 have HL1x0 := hJ (show w.heap.size < x1.heap.size from HQ1x0.out.lt)
 have HQ1x1 := hJ (show BX 25 x1 (w.heap.size + 1) #[.int .i64 c, .int .i64 d] by rw [← hx1]; exact (BX.at (by simp only [World.size_alloc])))
 have HG1x1 := hJ (show w.heap.size ≤ w.heap.size + 1 by omega)
 have HL1x1 := hJ (show w.heap.size + 1 < x1.heap.size from HQ1x1.out.lt)
 obtain ⟨cl2, cl3⟩ := HQ1x0.out.c2 0 1 rfl rfl
 go_enter Try.func18, Try.ntmps18
 go_wp2_with fail
 clear hx1 cl2 cl3
 refine (rdir_any a b x1).mono ?_
 rw [di_e HA.out]
 rintro e w4 ⟨rfl, hb⟩
 have HB4 := hJ hb
 clear hb
 have HQ1x1w2 := hJ (BX.new HQ1x1.out HB4.out)
 obtain ⟨cl5, cl6⟩ := HQ1x1w2.out.c2 0 1 rfl rfl
 go_wp2_with fail
 clear cl5 cl6
 refine (rdir_any c d w4).mono ?_
 rw [di_e HB.out]
 rintro e w7 ⟨rfl, hb⟩
 have HB7 := hJ hb
 clear hb
 have HC1_3 := hJ (bt HB4.out HB7.out)
 have HQ1x0w3 := hJ (BX.new HQ1x0.out HC1_3.out)
 obtain ⟨cl8, cl9⟩ := HQ1x0w3.out.c2 0 1 rfl rfl
 have HQ1x1w3 := hJ (BX.new HQ1x1w2.out HB7.out)
 obtain ⟨cl10, cl11⟩ := HQ1x1w3.out.c2 0 1 rfl rfl
 go_wp2_with fail
 clear cl8 cl9 cl10 cl11
 refine (order_any a b c d w7 (di_ord HA.out HB.out)).mono ?_
 rintro e w12 ⟨rfl, hb⟩
 have HB12 := hJ hb
 clear hb
 have HC0_4 := hJ (bt (bt (bt HB1.out HB4.out) HB7.out) HB12.out)
 go_wp2
 go_ret2
 exact ⟨rfl, HC0_4.out⟩
set_option maxRecDepth 100000 in
set_option maxHeartbeats 1600000 in
theorem rsector_any (fx fy tx ty dx dy : Int) (w : World) (h : Di fx fy) (h' : Di tx ty) (h'' : Di dx dy) :
  Calls Try.prog 19 #[.agg #[.int .i64 fx, .int .i64 fy], .agg #[.int .i64 tx, .int .i64 ty], .agg #[.int .i64 dx, .int .i64 dy]] w fun e w' => e = .returned (.tuple #[.bool (rsV fx fy tx ty dx dy), .int .i64 0]) ∧ Below w.heap.size w w' := by
 have HF := hJ h
 have HT := hJ h'
 have HD := hJ h''
 clear h h' h''
 obtain ⟨x1, hx1⟩ := nmz (((w.alloc (.cells #[.int .i64 fx, .int .i64 fy] 25)).alloc (.cells #[.int .i64 tx, .int .i64 ty] 25)).alloc (.cells #[.int .i64 dx, .int .i64 dy] 25))
 have HB1 := hJ (show Below w.heap.size w x1 by rw [← hx1]; exact ((((Below.refl _ _).alloc (Nat.le_refl _) _).alloc (by simp only [World.size_alloc]; omega) _).alloc (by simp only [World.size_alloc]; omega) _))
 have HQ1x0 := hJ (show BX 25 x1 w.heap.size #[.int .i64 fx, .int .i64 fy] by rw [← hx1]; exact (((BX.at rfl).alloc _).alloc _))
 have HG1x0 := hJ (show w.heap.size ≤ w.heap.size by omega)
 have HL1x0 := hJ (show w.heap.size < x1.heap.size from HQ1x0.out.lt)
 have HQ1x1 := hJ (show BX 25 x1 (w.heap.size + 1) #[.int .i64 tx, .int .i64 ty] by rw [← hx1]; exact ((BX.at (by simp only [World.size_alloc])).alloc _))
 have HG1x1 := hJ (show w.heap.size ≤ w.heap.size + 1 by omega)
 have HL1x1 := hJ (show w.heap.size + 1 < x1.heap.size from HQ1x1.out.lt)
 have HQ1x2 := hJ (show BX 25 x1 (w.heap.size + 2) #[.int .i64 dx, .int .i64 dy] by rw [← hx1]; exact (BX.at (by simp only [World.size_alloc])))
 have HG1x2 := hJ (show w.heap.size ≤ w.heap.size + 2 by omega)
 have HL1x2 := hJ (show w.heap.size + 2 < x1.heap.size from HQ1x2.out.lt)
 obtain ⟨cl2, cl3⟩ := HQ1x0.out.c2 0 1 rfl rfl
 obtain ⟨cl4, cl5⟩ := HQ1x1.out.c2 0 1 rfl rfl
 obtain ⟨cl6, cl7⟩ := HQ1x2.out.c2 0 1 rfl rfl
 obtain ⟨x8, hx8⟩ := nmz (x1.alloc (.cells #[.int .i64 fx, .int .i64 fy, .int .i64 tx, .int .i64 ty, .int .i64 dx, .int .i64 dy] 25))
 have HB8 := hJ (show Below x1.heap.size x1 x8 by rw [← hx8]; exact ((Below.refl _ _).alloc (Nat.le_refl _) _))
 have HQ8x0 := hJ (show BX 25 x8 x1.heap.size #[.int .i64 fx, .int .i64 fy, .int .i64 tx, .int .i64 ty, .int .i64 dx, .int .i64 dy] by rw [← hx8]; exact (BX.at rfl))
 have HG8x0 := hJ (show x1.heap.size ≤ x1.heap.size by omega)
 have HL8x0 := hJ (show x1.heap.size < x8.heap.size from HQ8x0.out.lt)
 go_enter Try.func19, Try.ntmps19
 go_wp2_with fail
 clear hx1 cl2 cl3 cl4 cl5 cl6 cl7 hx8
 go_loopw [9] (fun tv wr => ∃ i : Nat, i ≤ 3 ∧ tv = .int .i64 (i : Int) ∧ Below x8.heap.size x8 wr) (fun tv _ => 3 - (intOf tv).toNat)
 case atStart => exact ⟨0, by omega, rfl, Below.refl _ _⟩
 case round =>
  obtain ⟨i9, hi, rfl, hbel⟩ := hrel
  obtain ⟨wl9, rfl⟩ : ∃ W : World, W = wr := ⟨_, rfl⟩
  have HB9 := hJ hbel
  clear hbel
  have hcs : i9 = 0 ∨ i9 = 1 ∨ i9 = 2 ∨ i9 = 3 := by omega
  clear hi
  rcases hcs with rfl | rfl | rfl | rfl
  ·(try rw [show ((0 : Nat) : Int) = 0 from rfl])
   have HQ8x0w3 := hJ (BX.new HQ8x0.out HB9.out)
   obtain ⟨cl10, cl11⟩ := HQ8x0w3.out.c2 0 1 rfl rfl
   go_wp2_with fail
   clear cl10 cl11
   refine (rdir_any fx fy wl9).mono ?_
   rw [di_e HF.out]
   rintro e w12 ⟨rfl, hb⟩
   have HB12 := hJ hb
   clear hb
   have HC2_4 := hJ (bt HB9.out HB12.out)
   go_wp2_with fail
   go_roundw
   case rel => exact ⟨0 + 1, by omega, by go_num, HC2_4.out⟩
   case measure => simp [intOf] <;> omega
  ·(try rw [show ((1 : Nat) : Int) = 1 from rfl])
   have HQ8x0w3 := hJ (BX.new HQ8x0.out HB9.out)
   obtain ⟨cl13, cl14⟩ := HQ8x0w3.out.c2 2 3 rfl rfl
   go_wp2_with fail
   clear cl13 cl14
   refine (rdir_any tx ty wl9).mono ?_
   rw [di_e HT.out]
   rintro e w15 ⟨rfl, hb⟩
   have HB15 := hJ hb
   clear hb
   have HC2_4 := hJ (bt HB9.out HB15.out)
   go_wp2_with fail
   go_roundw
   case rel => exact ⟨1 + 1, by omega, by go_num, HC2_4.out⟩
   case measure => simp [intOf] <;> omega
  ·(try rw [show ((2 : Nat) : Int) = 2 from rfl])
   have HQ8x0w3 := hJ (BX.new HQ8x0.out HB9.out)
   obtain ⟨cl16, cl17⟩ := HQ8x0w3.out.c2 4 5 rfl rfl
   go_wp2_with fail
   clear cl16 cl17
   refine (rdir_any dx dy wl9).mono ?_
   rw [di_e HD.out]
   rintro e w18 ⟨rfl, hb⟩
   have HB18 := hJ hb
   clear hb
   have HC2_4 := hJ (bt HB9.out HB18.out)
   go_wp2_with fail
   go_roundw
   case rel => exact ⟨2 + 1, by omega, by go_num, HC2_4.out⟩
   case measure => simp [intOf] <;> omega
  ·(try rw [show ((3 : Nat) : Int) = 3 from rfl])
   obtain ⟨k1, hk1⟩ := nmz (ordV dx dy fx fy)
   obtain ⟨k2, hk2⟩ := nmz (ordV tx ty fx fy)
   obtain ⟨k3, hk3⟩ := nmz (ordV dx dy tx ty)
   have Hk1 := hJ hk1
   have Hk2 := hJ hk2
   have Hk3 := hJ hk3
   clear hk1 hk2 hk3
   rcases (show (k1 < 0 ∧ k2 < 0) ∨ (k1 < 0 ∧ k2 = 0) ∨ (k1 < 0 ∧ 0 < k2) ∨ k1 = 0 ∨ (0 < k1 ∧ k2 < 0) ∨ (0 < k1 ∧ k2 = 0) ∨ (0 < k1 ∧ 0 < k2) by omega) with ⟨q0, q1⟩ | ⟨q0, q1⟩ | ⟨q0, q1⟩ | q0 | ⟨q0, q1⟩ | ⟨q0, q1⟩ | ⟨q0, q1⟩
   ·have HV := hJ (show rsV fx fy tx ty dx dy = decide (k3 < 0) by unfold rsV; rw [Hk1.out, Hk2.out, Hk3.out]; rw [if_neg (by omega), if_neg (by omega), if_pos q0, if_pos q1, if_pos rfl])
    have ek1 : (k1 == 0) = false := by rw [beq_eq_false_iff_ne]; omega
    have ek2 : (k2 == 0) = false := by rw [beq_eq_false_iff_ne]; omega
    have HC1_3 := hJ (bt HB8.out HB9.out)
    have HQ1x2w3 := hJ (BX.new HQ1x2.out HC1_3.out)
    obtain ⟨cl19, cl20⟩ := HQ1x2w3.out.c2 0 1 rfl rfl
    have HQ1x0w3 := hJ (BX.new HQ1x0.out HC1_3.out)
    obtain ⟨cl21, cl22⟩ := HQ1x0w3.out.c2 0 1 rfl rfl
    go_wp2_with fail
    clear cl19 cl20 cl21 cl22
    refine (order_any dx dy fx fy wl9 (di_ord HD.out HF.out)).mono ?_
    rw [Hk1.out]
    rintro e w23 ⟨rfl, hb⟩
    have HB23 := hJ hb
    clear hb
    have HQ1x2w4 := hJ (BX.new HQ1x2w3.out HB23.out)
    obtain ⟨cl24, cl25⟩ := HQ1x2w4.out.c2 0 1 rfl rfl
    have HQ1x0w4 := hJ (BX.new HQ1x0w3.out HB23.out)
    obtain ⟨cl26, cl27⟩ := HQ1x0w4.out.c2 0 1 rfl rfl
    go_wp2_with fail
    clear cl24 cl25 cl26 cl27
    refine (order_any dx dy fx fy w23 (di_ord HD.out HF.out)).mono ?_
    rw [Hk1.out]
    rintro e w28 ⟨rfl, hb⟩
    have HB28 := hJ hb
    clear hb
    have HC1_5 := hJ (bt (bt HC1_3.out HB23.out) HB28.out)
    have HQ1x1w5 := hJ (BX.new HQ1x1.out HC1_5.out)
    obtain ⟨cl29, cl30⟩ := HQ1x1w5.out.c2 0 1 rfl rfl
    have HQ1x0w5 := hJ (BX.new HQ1x0w4.out HB28.out)
    obtain ⟨cl31, cl32⟩ := HQ1x0w5.out.c2 0 1 rfl rfl
    go_wp2_with fail
    clear cl29 cl30 cl31 cl32
    refine (order_any tx ty fx fy w28 (di_ord HT.out HF.out)).mono ?_
    rw [Hk2.out]
    rintro e w33 ⟨rfl, hb⟩
    have HB33 := hJ hb
    clear hb
    have HQ1x1w6 := hJ (BX.new HQ1x1w5.out HB33.out)
    obtain ⟨cl34, cl35⟩ := HQ1x1w6.out.c2 0 1 rfl rfl
    have HQ1x0w6 := hJ (BX.new HQ1x0w5.out HB33.out)
    obtain ⟨cl36, cl37⟩ := HQ1x0w6.out.c2 0 1 rfl rfl
    go_wp2_with fail
    clear cl34 cl35 cl36 cl37
    refine (order_any tx ty fx fy w33 (di_ord HT.out HF.out)).mono ?_
    rw [Hk2.out]
    rintro e w38 ⟨rfl, hb⟩
    have HB38 := hJ hb
    clear hb
    have HC4_7 := hJ (bt (bt HB28.out HB33.out) HB38.out)
    have HQ1x2w7 := hJ (BX.new HQ1x2w4.out HC4_7.out)
    obtain ⟨cl39, cl40⟩ := HQ1x2w7.out.c2 0 1 rfl rfl
    have HQ1x1w7 := hJ (BX.new HQ1x1w6.out HB38.out)
    obtain ⟨cl41, cl42⟩ := HQ1x1w7.out.c2 0 1 rfl rfl
    go_wp2_with fail
    clear cl39 cl40 cl41 cl42
    refine (order_any dx dy tx ty w38 (di_ord HD.out HT.out)).mono ?_
    rw [Hk3.out]
    rintro e w43 ⟨rfl, hb⟩
    have HB43 := hJ hb
    clear hb
    have HC0_8 := hJ (bt (bt (bt (bt (bt (bt (bt HB1.out HB8.out) HB9.out) HB23.out) HB28.out) HB33.out) HB38.out) HB43.out)
    go_wp2
    go_ret2
    exact ⟨by rw [HV.out] <;> rfl, HC0_8.out⟩
   ·have HV := hJ (show rsV fx fy tx ty dx dy = true by unfold rsV; rw [Hk1.out, Hk2.out, Hk3.out]; rw [if_neg (by omega), if_pos q1])
    have ek1 : (k1 == 0) = false := by rw [beq_eq_false_iff_ne]; omega
    have ek2 : (k2 == 0) = true := by rw [beq_iff_eq]; exact q1
    have HC1_3 := hJ (bt HB8.out HB9.out)
    have HQ1x2w3 := hJ (BX.new HQ1x2.out HC1_3.out)
    obtain ⟨cl44, cl45⟩ := HQ1x2w3.out.c2 0 1 rfl rfl
    have HQ1x0w3 := hJ (BX.new HQ1x0.out HC1_3.out)
    obtain ⟨cl46, cl47⟩ := HQ1x0w3.out.c2 0 1 rfl rfl
    go_wp2_with fail
    clear cl44 cl45 cl46 cl47
    refine (order_any dx dy fx fy wl9 (di_ord HD.out HF.out)).mono ?_
    rw [Hk1.out]
    rintro e w48 ⟨rfl, hb⟩
    have HB48 := hJ hb
    clear hb
    have HQ1x2w4 := hJ (BX.new HQ1x2w3.out HB48.out)
    obtain ⟨cl49, cl50⟩ := HQ1x2w4.out.c2 0 1 rfl rfl
    have HQ1x0w4 := hJ (BX.new HQ1x0w3.out HB48.out)
    obtain ⟨cl51, cl52⟩ := HQ1x0w4.out.c2 0 1 rfl rfl
    go_wp2_with fail
    clear cl49 cl50 cl51 cl52
    refine (order_any dx dy fx fy w48 (di_ord HD.out HF.out)).mono ?_
    rw [Hk1.out]
    rintro e w53 ⟨rfl, hb⟩
    have HB53 := hJ hb
    clear hb
    have HC1_5 := hJ (bt (bt HC1_3.out HB48.out) HB53.out)
    have HQ1x1w5 := hJ (BX.new HQ1x1.out HC1_5.out)
    obtain ⟨cl54, cl55⟩ := HQ1x1w5.out.c2 0 1 rfl rfl
    have HQ1x0w5 := hJ (BX.new HQ1x0w4.out HB53.out)
    obtain ⟨cl56, cl57⟩ := HQ1x0w5.out.c2 0 1 rfl rfl
    go_wp2_with fail
    clear cl54 cl55 cl56 cl57
    refine (order_any tx ty fx fy w53 (di_ord HT.out HF.out)).mono ?_
    rw [Hk2.out]
    rintro e w58 ⟨rfl, hb⟩
    have HB58 := hJ hb
    clear hb
    have HQ1x1w6 := hJ (BX.new HQ1x1w5.out HB58.out)
    obtain ⟨cl59, cl60⟩ := HQ1x1w6.out.c2 0 1 rfl rfl
    have HQ1x0w6 := hJ (BX.new HQ1x0w5.out HB58.out)
    obtain ⟨cl61, cl62⟩ := HQ1x0w6.out.c2 0 1 rfl rfl
    go_wp2_with fail
    clear cl59 cl60 cl61 cl62
    refine (order_any tx ty fx fy w58 (di_ord HT.out HF.out)).mono ?_
    rw [Hk2.out]
    rintro e w63 ⟨rfl, hb⟩
    have HB63 := hJ hb
    clear hb
    have HC0_7 := hJ (bt (bt (bt (bt (bt (bt HB1.out HB8.out) HB9.out) HB48.out) HB53.out) HB58.out) HB63.out)
    go_wp2
    go_ret2
    exact ⟨by rw [HV.out] <;> rfl, HC0_7.out⟩
   ·have HV := hJ (show rsV fx fy tx ty dx dy = false by unfold rsV; rw [Hk1.out, Hk2.out, Hk3.out]; rw [if_neg (by omega), if_neg (by omega), if_pos q0, if_neg (show ¬ k2 < 0 by omega), if_neg (by decide)]; rfl)
    have ek1 : (k1 == 0) = false := by rw [beq_eq_false_iff_ne]; omega
    have ek2 : (k2 == 0) = false := by rw [beq_eq_false_iff_ne]; omega
    have HC1_3 := hJ (bt HB8.out HB9.out)
    have HQ1x2w3 := hJ (BX.new HQ1x2.out HC1_3.out)
    obtain ⟨cl64, cl65⟩ := HQ1x2w3.out.c2 0 1 rfl rfl
    have HQ1x0w3 := hJ (BX.new HQ1x0.out HC1_3.out)
    obtain ⟨cl66, cl67⟩ := HQ1x0w3.out.c2 0 1 rfl rfl
    go_wp2_with fail
    clear cl64 cl65 cl66 cl67
    refine (order_any dx dy fx fy wl9 (di_ord HD.out HF.out)).mono ?_
    rw [Hk1.out]
    rintro e w68 ⟨rfl, hb⟩
    have HB68 := hJ hb
    clear hb
    have HQ1x2w4 := hJ (BX.new HQ1x2w3.out HB68.out)
    obtain ⟨cl69, cl70⟩ := HQ1x2w4.out.c2 0 1 rfl rfl
    have HQ1x0w4 := hJ (BX.new HQ1x0w3.out HB68.out)
    obtain ⟨cl71, cl72⟩ := HQ1x0w4.out.c2 0 1 rfl rfl
    go_wp2_with fail
    clear cl69 cl70 cl71 cl72
    refine (order_any dx dy fx fy w68 (di_ord HD.out HF.out)).mono ?_
    rw [Hk1.out]
    rintro e w73 ⟨rfl, hb⟩
    have HB73 := hJ hb
    clear hb
    have HC1_5 := hJ (bt (bt HC1_3.out HB68.out) HB73.out)
    have HQ1x1w5 := hJ (BX.new HQ1x1.out HC1_5.out)
    obtain ⟨cl74, cl75⟩ := HQ1x1w5.out.c2 0 1 rfl rfl
    have HQ1x0w5 := hJ (BX.new HQ1x0w4.out HB73.out)
    obtain ⟨cl76, cl77⟩ := HQ1x0w5.out.c2 0 1 rfl rfl
    go_wp2_with fail
    clear cl74 cl75 cl76 cl77
    refine (order_any tx ty fx fy w73 (di_ord HT.out HF.out)).mono ?_
    rw [Hk2.out]
    rintro e w78 ⟨rfl, hb⟩
    have HB78 := hJ hb
    clear hb
    have HQ1x1w6 := hJ (BX.new HQ1x1w5.out HB78.out)
    obtain ⟨cl79, cl80⟩ := HQ1x1w6.out.c2 0 1 rfl rfl
    have HQ1x0w6 := hJ (BX.new HQ1x0w5.out HB78.out)
    obtain ⟨cl81, cl82⟩ := HQ1x0w6.out.c2 0 1 rfl rfl
    go_wp2_with fail
    clear cl79 cl80 cl81 cl82
    refine (order_any tx ty fx fy w78 (di_ord HT.out HF.out)).mono ?_
    rw [Hk2.out]
    rintro e w83 ⟨rfl, hb⟩
    have HB83 := hJ hb
    clear hb
    have HC0_7 := hJ (bt (bt (bt (bt (bt (bt HB1.out HB8.out) HB9.out) HB68.out) HB73.out) HB78.out) HB83.out)
    go_wp2
    go_ret2
    exact ⟨by rw [HV.out] <;> rfl, HC0_7.out⟩
   ·have HV := hJ (show rsV fx fy tx ty dx dy = false by unfold rsV; rw [Hk1.out, Hk2.out, Hk3.out]; rw [if_pos q0])
    have ek1 : (k1 == 0) = true := by rw [beq_iff_eq]; exact q0
    have HC1_3 := hJ (bt HB8.out HB9.out)
    have HQ1x2w3 := hJ (BX.new HQ1x2.out HC1_3.out)
    obtain ⟨cl84, cl85⟩ := HQ1x2w3.out.c2 0 1 rfl rfl
    have HQ1x0w3 := hJ (BX.new HQ1x0.out HC1_3.out)
    obtain ⟨cl86, cl87⟩ := HQ1x0w3.out.c2 0 1 rfl rfl
    go_wp2_with fail
    clear cl84 cl85 cl86 cl87
    refine (order_any dx dy fx fy wl9 (di_ord HD.out HF.out)).mono ?_
    rw [Hk1.out]
    rintro e w88 ⟨rfl, hb⟩
    have HB88 := hJ hb
    clear hb
    have HQ1x2w4 := hJ (BX.new HQ1x2w3.out HB88.out)
    obtain ⟨cl89, cl90⟩ := HQ1x2w4.out.c2 0 1 rfl rfl
    have HQ1x0w4 := hJ (BX.new HQ1x0w3.out HB88.out)
    obtain ⟨cl91, cl92⟩ := HQ1x0w4.out.c2 0 1 rfl rfl
    go_wp2_with fail
    clear cl89 cl90 cl91 cl92
    refine (order_any dx dy fx fy w88 (di_ord HD.out HF.out)).mono ?_
    rw [Hk1.out]
    rintro e w93 ⟨rfl, hb⟩
    have HB93 := hJ hb
    clear hb
    have HC0_5 := hJ (bt (bt (bt (bt HB1.out HB8.out) HB9.out) HB88.out) HB93.out)
    go_wp2
    go_ret2
    exact ⟨by rw [HV.out] <;> rfl, HC0_5.out⟩
   ·have HV := hJ (show rsV fx fy tx ty dx dy = true by unfold rsV; rw [Hk1.out, Hk2.out, Hk3.out]; rw [if_neg (by omega), if_neg (by omega), if_neg (show ¬ k1 < 0 by omega), if_pos q1, if_neg (by decide)]; rfl)
    have ek1 : (k1 == 0) = false := by rw [beq_eq_false_iff_ne]; omega
    have ek2 : (k2 == 0) = false := by rw [beq_eq_false_iff_ne]; omega
    have HC1_3 := hJ (bt HB8.out HB9.out)
    have HQ1x2w3 := hJ (BX.new HQ1x2.out HC1_3.out)
    obtain ⟨cl94, cl95⟩ := HQ1x2w3.out.c2 0 1 rfl rfl
    have HQ1x0w3 := hJ (BX.new HQ1x0.out HC1_3.out)
    obtain ⟨cl96, cl97⟩ := HQ1x0w3.out.c2 0 1 rfl rfl
    go_wp2_with fail
    clear cl94 cl95 cl96 cl97
    refine (order_any dx dy fx fy wl9 (di_ord HD.out HF.out)).mono ?_
    rw [Hk1.out]
    rintro e w98 ⟨rfl, hb⟩
    have HB98 := hJ hb
    clear hb
    have HQ1x2w4 := hJ (BX.new HQ1x2w3.out HB98.out)
    obtain ⟨cl99, cl100⟩ := HQ1x2w4.out.c2 0 1 rfl rfl
    have HQ1x0w4 := hJ (BX.new HQ1x0w3.out HB98.out)
    obtain ⟨cl101, cl102⟩ := HQ1x0w4.out.c2 0 1 rfl rfl
    go_wp2_with fail
    clear cl99 cl100 cl101 cl102
    refine (order_any dx dy fx fy w98 (di_ord HD.out HF.out)).mono ?_
    rw [Hk1.out]
    rintro e w103 ⟨rfl, hb⟩
    have HB103 := hJ hb
    clear hb
    have HC1_5 := hJ (bt (bt HC1_3.out HB98.out) HB103.out)
    have HQ1x1w5 := hJ (BX.new HQ1x1.out HC1_5.out)
    obtain ⟨cl104, cl105⟩ := HQ1x1w5.out.c2 0 1 rfl rfl
    have HQ1x0w5 := hJ (BX.new HQ1x0w4.out HB103.out)
    obtain ⟨cl106, cl107⟩ := HQ1x0w5.out.c2 0 1 rfl rfl
    go_wp2_with fail
    clear cl104 cl105 cl106 cl107
    refine (order_any tx ty fx fy w103 (di_ord HT.out HF.out)).mono ?_
    rw [Hk2.out]
    rintro e w108 ⟨rfl, hb⟩
    have HB108 := hJ hb
    clear hb
    have HQ1x1w6 := hJ (BX.new HQ1x1w5.out HB108.out)
    obtain ⟨cl109, cl110⟩ := HQ1x1w6.out.c2 0 1 rfl rfl
    have HQ1x0w6 := hJ (BX.new HQ1x0w5.out HB108.out)
    obtain ⟨cl111, cl112⟩ := HQ1x0w6.out.c2 0 1 rfl rfl
    go_wp2_with fail
    clear cl109 cl110 cl111 cl112
    refine (order_any tx ty fx fy w108 (di_ord HT.out HF.out)).mono ?_
    rw [Hk2.out]
    rintro e w113 ⟨rfl, hb⟩
    have HB113 := hJ hb
    clear hb
    have HC0_7 := hJ (bt (bt (bt (bt (bt (bt HB1.out HB8.out) HB9.out) HB98.out) HB103.out) HB108.out) HB113.out)
    go_wp2
    go_ret2
    exact ⟨by rw [HV.out] <;> rfl, HC0_7.out⟩
   ·have HV := hJ (show rsV fx fy tx ty dx dy = true by unfold rsV; rw [Hk1.out, Hk2.out, Hk3.out]; rw [if_neg (by omega), if_pos q1])
    have ek1 : (k1 == 0) = false := by rw [beq_eq_false_iff_ne]; omega
    have ek2 : (k2 == 0) = true := by rw [beq_iff_eq]; exact q1
    have HC1_3 := hJ (bt HB8.out HB9.out)
    have HQ1x2w3 := hJ (BX.new HQ1x2.out HC1_3.out)
    obtain ⟨cl114, cl115⟩ := HQ1x2w3.out.c2 0 1 rfl rfl
    have HQ1x0w3 := hJ (BX.new HQ1x0.out HC1_3.out)
    obtain ⟨cl116, cl117⟩ := HQ1x0w3.out.c2 0 1 rfl rfl
    go_wp2_with fail
    clear cl114 cl115 cl116 cl117
    refine (order_any dx dy fx fy wl9 (di_ord HD.out HF.out)).mono ?_
    rw [Hk1.out]
    rintro e w118 ⟨rfl, hb⟩
    have HB118 := hJ hb
    clear hb
    have HQ1x2w4 := hJ (BX.new HQ1x2w3.out HB118.out)
    obtain ⟨cl119, cl120⟩ := HQ1x2w4.out.c2 0 1 rfl rfl
    have HQ1x0w4 := hJ (BX.new HQ1x0w3.out HB118.out)
    obtain ⟨cl121, cl122⟩ := HQ1x0w4.out.c2 0 1 rfl rfl
    go_wp2_with fail
    clear cl119 cl120 cl121 cl122
    refine (order_any dx dy fx fy w118 (di_ord HD.out HF.out)).mono ?_
    rw [Hk1.out]
    rintro e w123 ⟨rfl, hb⟩
    have HB123 := hJ hb
    clear hb
    have HC1_5 := hJ (bt (bt HC1_3.out HB118.out) HB123.out)
    have HQ1x1w5 := hJ (BX.new HQ1x1.out HC1_5.out)
    obtain ⟨cl124, cl125⟩ := HQ1x1w5.out.c2 0 1 rfl rfl
    have HQ1x0w5 := hJ (BX.new HQ1x0w4.out HB123.out)
    obtain ⟨cl126, cl127⟩ := HQ1x0w5.out.c2 0 1 rfl rfl
    go_wp2_with fail
    clear cl124 cl125 cl126 cl127
    refine (order_any tx ty fx fy w123 (di_ord HT.out HF.out)).mono ?_
    rw [Hk2.out]
    rintro e w128 ⟨rfl, hb⟩
    have HB128 := hJ hb
    clear hb
    have HQ1x1w6 := hJ (BX.new HQ1x1w5.out HB128.out)
    obtain ⟨cl129, cl130⟩ := HQ1x1w6.out.c2 0 1 rfl rfl
    have HQ1x0w6 := hJ (BX.new HQ1x0w5.out HB128.out)
    obtain ⟨cl131, cl132⟩ := HQ1x0w6.out.c2 0 1 rfl rfl
    go_wp2_with fail
    clear cl129 cl130 cl131 cl132
    refine (order_any tx ty fx fy w128 (di_ord HT.out HF.out)).mono ?_
    rw [Hk2.out]
    rintro e w133 ⟨rfl, hb⟩
    have HB133 := hJ hb
    clear hb
    have HC0_7 := hJ (bt (bt (bt (bt (bt (bt HB1.out HB8.out) HB9.out) HB118.out) HB123.out) HB128.out) HB133.out)
    go_wp2
    go_ret2
    exact ⟨by rw [HV.out] <;> rfl, HC0_7.out⟩
   ·have HV := hJ (show rsV fx fy tx ty dx dy = decide (k3 < 0) by unfold rsV; rw [Hk1.out, Hk2.out, Hk3.out]; rw [if_neg (by omega), if_neg (by omega), if_neg (show ¬ k1 < 0 by omega), if_neg (show ¬ k2 < 0 by omega), if_pos rfl])
    have ek1 : (k1 == 0) = false := by rw [beq_eq_false_iff_ne]; omega
    have ek2 : (k2 == 0) = false := by rw [beq_eq_false_iff_ne]; omega
    have HC1_3 := hJ (bt HB8.out HB9.out)
    have HQ1x2w3 := hJ (BX.new HQ1x2.out HC1_3.out)
    obtain ⟨cl134, cl135⟩ := HQ1x2w3.out.c2 0 1 rfl rfl
    have HQ1x0w3 := hJ (BX.new HQ1x0.out HC1_3.out)
    obtain ⟨cl136, cl137⟩ := HQ1x0w3.out.c2 0 1 rfl rfl
    go_wp2_with fail
    clear cl134 cl135 cl136 cl137
    refine (order_any dx dy fx fy wl9 (di_ord HD.out HF.out)).mono ?_
    rw [Hk1.out]
    rintro e w138 ⟨rfl, hb⟩
    have HB138 := hJ hb
    clear hb
    have HQ1x2w4 := hJ (BX.new HQ1x2w3.out HB138.out)
    obtain ⟨cl139, cl140⟩ := HQ1x2w4.out.c2 0 1 rfl rfl
    have HQ1x0w4 := hJ (BX.new HQ1x0w3.out HB138.out)
    obtain ⟨cl141, cl142⟩ := HQ1x0w4.out.c2 0 1 rfl rfl
    go_wp2_with fail
    clear cl139 cl140 cl141 cl142
    refine (order_any dx dy fx fy w138 (di_ord HD.out HF.out)).mono ?_
    rw [Hk1.out]
    rintro e w143 ⟨rfl, hb⟩
    have HB143 := hJ hb
    clear hb
    have HC1_5 := hJ (bt (bt HC1_3.out HB138.out) HB143.out)
    have HQ1x1w5 := hJ (BX.new HQ1x1.out HC1_5.out)
    obtain ⟨cl144, cl145⟩ := HQ1x1w5.out.c2 0 1 rfl rfl
    have HQ1x0w5 := hJ (BX.new HQ1x0w4.out HB143.out)
    obtain ⟨cl146, cl147⟩ := HQ1x0w5.out.c2 0 1 rfl rfl
    go_wp2_with fail
    clear cl144 cl145 cl146 cl147
    refine (order_any tx ty fx fy w143 (di_ord HT.out HF.out)).mono ?_
    rw [Hk2.out]
    rintro e w148 ⟨rfl, hb⟩
    have HB148 := hJ hb
    clear hb
    have HQ1x1w6 := hJ (BX.new HQ1x1w5.out HB148.out)
    obtain ⟨cl149, cl150⟩ := HQ1x1w6.out.c2 0 1 rfl rfl
    have HQ1x0w6 := hJ (BX.new HQ1x0w5.out HB148.out)
    obtain ⟨cl151, cl152⟩ := HQ1x0w6.out.c2 0 1 rfl rfl
    go_wp2_with fail
    clear cl149 cl150 cl151 cl152
    refine (order_any tx ty fx fy w148 (di_ord HT.out HF.out)).mono ?_
    rw [Hk2.out]
    rintro e w153 ⟨rfl, hb⟩
    have HB153 := hJ hb
    clear hb
    have HC4_7 := hJ (bt (bt HB143.out HB148.out) HB153.out)
    have HQ1x2w7 := hJ (BX.new HQ1x2w4.out HC4_7.out)
    obtain ⟨cl154, cl155⟩ := HQ1x2w7.out.c2 0 1 rfl rfl
    have HQ1x1w7 := hJ (BX.new HQ1x1w6.out HB153.out)
    obtain ⟨cl156, cl157⟩ := HQ1x1w7.out.c2 0 1 rfl rfl
    go_wp2_with fail
    clear cl154 cl155 cl156 cl157
    refine (order_any dx dy tx ty w153 (di_ord HD.out HT.out)).mono ?_
    rw [Hk3.out]
    rintro e w158 ⟨rfl, hb⟩
    have HB158 := hJ hb
    clear hb
    have HC0_8 := hJ (bt (bt (bt (bt (bt (bt (bt HB1.out HB8.out) HB9.out) HB138.out) HB143.out) HB148.out) HB153.out) HB158.out)
    go_wp2
    go_ret2
    exact ⟨by rw [HV.out] <;> rfl, HC0_8.out⟩
set_option maxRecDepth 100000 in
set_option maxHeartbeats 1600000 in
theorem dir_any (n : Int) (w : World) (hn : (Lit.int .i64 n).wf = true) :
  Calls Try.prog 14 #[.int .i64 n] w fun e w' => ∃ x y, e = .returned (.agg #[.int .i64 x, .int .i64 y]) ∧ Di x y ∧ Below w.heap.size w w' := by
 have HN := hJ hn
 obtain ⟨k, hk⟩ := nmz (aroundZ n 1048576)
 obtain ⟨hk0, hk1⟩ := aroundZ_in n (n := 1048576) (by decide)
 rw [hk] at hk0 hk1
 have HK := hJ hk
 obtain ⟨x, hx⟩ := nmz (k % 9 - 4)
 obtain ⟨y, hy⟩ := nmz (k / 9 % 9 - 4)
 obtain ⟨u, hu⟩ := nmz (1 - 2 * (k / 81 % 2))
 have HX := hJ (show (-4 ≤ x ∧ x ≤ 4) ∧ (-4 ≤ y ∧ y ≤ 4) ∧ (u = 1 ∨ u = -1) by omega)
 have e1 : IntKind.i64.wrap (k % 9) = k % 9 := IntWalk.i64_in _ (by omega)
 have e2 : IntKind.i64.wrap (k % 9 - 4) = x := by rw [hx]; exact IntWalk.i64_in _ (by omega)
 have e3 : IntKind.i64.wrap (k / 9) = k / 9 := IntWalk.i64_in _ (by omega)
 have e4 : IntKind.i64.wrap (k / 9 % 9) = k / 9 % 9 := IntWalk.i64_in _ (by omega)
 have e5 : IntKind.i64.wrap (k / 9 % 9 - 4) = y := by rw [hy]; exact IntWalk.i64_in _ (by omega)
 have e6 : IntKind.i64.wrap (k / 81) = k / 81 := IntWalk.i64_in _ (by omega)
 have e7 : IntKind.i64.wrap (k / 81 % 2) = k / 81 % 2 := IntWalk.i64_in _ (by omega)
 have e8 : IntKind.i64.wrap (2 * (k / 81 % 2)) = 2 * (k / 81 % 2) := IntWalk.i64_in _ (by omega)
 have e9 : IntKind.i64.wrap (1 - 2 * (k / 81 % 2)) = u := by rw [hu]; exact IntWalk.i64_in _ (by omega)
 have g1 : 0 ≤ k / 9 := by omega
 have g2 : 0 ≤ k / 81 := by omega
 clear hn hk hx hy hu
 obtain ⟨x1, hx1⟩ := nmz (w.alloc (.cells #[.int .i64 0, .int .i64 0] 25))
 have HB1 := hJ (show Below w.heap.size w x1 by rw [← hx1]; exact ((Below.refl _ _).alloc (Nat.le_refl _) _))
 have HQ1x0 := hJ (show BX 25 x1 w.heap.size #[.int .i64 0, .int .i64 0] by rw [← hx1]; exact (BX.at rfl))
 have HG1x0 := hJ (show w.heap.size ≤ w.heap.size by omega)
 have HL1x0 := hJ (show w.heap.size < x1.heap.size from HQ1x0.out.lt)
 go_enter Try.func14, Try.ntmps14
 go_wp2_with fail
 clear hx1
 refine (aroundz_any n 1048576 x1 (by decide) (by decide) HN.out).mono ?_
 rw [HK.out]
 rintro e w2 ⟨rfl, rfl⟩
 rcases (show (x = 0 ∧ y = 0) ∨ (x = 0 ∧ ¬ y = 0) ∨ ¬ x = 0 by omega) with ⟨q, q0⟩ | ⟨q0, q⟩ | q
 ·have HR := hJ (show Di u y from ⟨by have := HX.out; omega, by omega, by have := HX.out; omega⟩)
  have q2 : (x == 0) = true := by simp [q]
  have q3 : (y == 0) = true := by simp [q0]
  clear q q0
  obtain ⟨x3, hx3⟩ := nmz (x1.alloc (.cells #[.int .i64 x, .int .i64 y] 25))
  have HB3 := hJ (show Below x1.heap.size x1 x3 by rw [← hx3]; exact ((Below.refl _ _).alloc (Nat.le_refl _) _))
  have HQ3x0 := hJ (show BX 25 x3 x1.heap.size #[.int .i64 x, .int .i64 y] by rw [← hx3]; exact (BX.at rfl))
  have HG3x0 := hJ (show x1.heap.size ≤ x1.heap.size by omega)
  have HL3x0 := hJ (show x1.heap.size < x3.heap.size from HQ3x0.out.lt)
  have cl4 := HQ3x0.out.cell 0 rfl
  have cl5 := HQ3x0.out.cell 1 rfl
  have fz6_0 := HQ3x0.out.frozen 0
  have fc6_0 := HQ3x0.out.cell 0 rfl
  have fz6_1 := HQ3x0.out.frozen 1
  have fc6_1 := HQ3x0.out.cell 1 rfl
  obtain ⟨x6, hx6⟩ := nmz (World.setCell x3 ⟨x1.heap.size, 0, none⟩ (.int .i64 u))
  have HE6 := hJ (show sto x3 x1.heap.size 0 [.int .i64 u] = x6 from hx6)
  have HQ6s := hJ (show BX 25 x6 x1.heap.size #[.int .i64 u, .int .i64 y] by rw [← HE6.out]; exact BX.put HQ3x0.out _ _)
  obtain ⟨cl7, cl8⟩ := HQ6s.out.c2 0 1 rfl rfl
  have HC1_3 := hJ (show Below x1.heap.size x1 x6 by rw [← HE6.out]; exact below_sto HB3.out HG3x0.out _ _)
  have HQ1x0w3 := hJ (BX.new HQ1x0.out HC1_3.out)
  have fz9_0 := HQ1x0w3.out.frozen 0
  have fc9_0 := HQ1x0w3.out.cell 0 rfl
  have fz9_1 := HQ1x0w3.out.frozen 1
  have fc9_1 := HQ1x0w3.out.cell 1 rfl
  obtain ⟨x9, hx9⟩ := nmz (World.setCell (World.setCell x6 ⟨w.heap.size, 0, none⟩ (.int .i64 u)) ⟨w.heap.size, 1, none⟩ (.int .i64 y))
  have HE9 := hJ (show sto x6 w.heap.size 0 [.int .i64 u, .int .i64 y] = x9 from hx9)
  have HQ9s := hJ (show BX 25 x9 w.heap.size #[.int .i64 u, .int .i64 y] by rw [← HE9.out]; exact BX.put HQ1x0w3.out _ _)
  have HC0_3 := hJ (show Below w.heap.size w x6 by rw [← HE6.out]; exact below_sto (bt HB1.out HB3.out) (Nat.le_trans (HB1.out).size HG3x0.out) _ _)
  have HC0_4 := hJ (show Below w.heap.size w x9 by rw [← HE9.out]; exact below_sto HC0_3.out HG1x0.out _ _)
  go_wp2
  clear hx3 cl4 cl5 fz6_0 fc6_0 fz6_1 fc6_1 hx6 cl7 cl8 fz9_0 fc9_0 fz9_1 fc9_1 hx9
  exact bodyPost_ret (results_cell_row rfl _ _ _ _ _ _ _ rfl HQ9s.out Try.underlying25 rfl G_size) rfl ⟨_, _, rfl, HR.out, HC0_4.out⟩
 ·have HR := hJ (show Di x y from ⟨by omega, HX.out.2.1, fun h => q h.2⟩)
  have q2 : (y == 0) = false := by simp [q]
  have q3 : (x == 0) = true := by simp [q0]
  clear q q0
  obtain ⟨x10, hx10⟩ := nmz (x1.alloc (.cells #[.int .i64 x, .int .i64 y] 25))
  have HB10 := hJ (show Below x1.heap.size x1 x10 by rw [← hx10]; exact ((Below.refl _ _).alloc (Nat.le_refl _) _))
  have HQ10x0 := hJ (show BX 25 x10 x1.heap.size #[.int .i64 x, .int .i64 y] by rw [← hx10]; exact (BX.at rfl))
  have HG10x0 := hJ (show x1.heap.size ≤ x1.heap.size by omega)
  have HL10x0 := hJ (show x1.heap.size < x10.heap.size from HQ10x0.out.lt)
  have cl11 := HQ10x0.out.cell 0 rfl
  have cl12 := HQ10x0.out.cell 1 rfl
  obtain ⟨cl13, cl14⟩ := HQ10x0.out.c2 0 1 rfl rfl
  have HQ1x0w2 := hJ (BX.new HQ1x0.out HB10.out)
  have fz15_0 := HQ1x0w2.out.frozen 0
  have fc15_0 := HQ1x0w2.out.cell 0 rfl
  have fz15_1 := HQ1x0w2.out.frozen 1
  have fc15_1 := HQ1x0w2.out.cell 1 rfl
  obtain ⟨x15, hx15⟩ := nmz (World.setCell (World.setCell x10 ⟨w.heap.size, 0, none⟩ (.int .i64 x)) ⟨w.heap.size, 1, none⟩ (.int .i64 y))
  have HE15 := hJ (show sto x10 w.heap.size 0 [.int .i64 x, .int .i64 y] = x15 from hx15)
  have HQ15s := hJ (show BX 25 x15 w.heap.size #[.int .i64 x, .int .i64 y] by rw [← HE15.out]; exact BX.put HQ1x0w2.out _ _)
  have HC0_3 := hJ (show Below w.heap.size w x15 by rw [← HE15.out]; exact below_sto (bt HB1.out HB10.out) HG1x0.out _ _)
  go_wp2
  clear hx10 cl11 cl12 cl13 cl14 fz15_0 fc15_0 fz15_1 fc15_1 hx15
  exact bodyPost_ret (results_cell_row rfl _ _ _ _ _ _ _ rfl HQ15s.out Try.underlying25 rfl G_size) rfl ⟨_, _, rfl, HR.out, HC0_3.out⟩
 ·have HR := hJ (show Di x y from ⟨HX.out.1, HX.out.2.1, fun h => q h.1⟩)
  have q2 : (x == 0) = false := by simp [q]
  clear q
  obtain ⟨x16, hx16⟩ := nmz (x1.alloc (.cells #[.int .i64 x, .int .i64 y] 25))
  have HB16 := hJ (show Below x1.heap.size x1 x16 by rw [← hx16]; exact ((Below.refl _ _).alloc (Nat.le_refl _) _))
  have HQ16x0 := hJ (show BX 25 x16 x1.heap.size #[.int .i64 x, .int .i64 y] by rw [← hx16]; exact (BX.at rfl))
  have HG16x0 := hJ (show x1.heap.size ≤ x1.heap.size by omega)
  have HL16x0 := hJ (show x1.heap.size < x16.heap.size from HQ16x0.out.lt)
  have cl17 := HQ16x0.out.cell 0 rfl
  obtain ⟨cl18, cl19⟩ := HQ16x0.out.c2 0 1 rfl rfl
  have HQ1x0w2 := hJ (BX.new HQ1x0.out HB16.out)
  have fz20_0 := HQ1x0w2.out.frozen 0
  have fc20_0 := HQ1x0w2.out.cell 0 rfl
  have fz20_1 := HQ1x0w2.out.frozen 1
  have fc20_1 := HQ1x0w2.out.cell 1 rfl
  obtain ⟨x20, hx20⟩ := nmz (World.setCell (World.setCell x16 ⟨w.heap.size, 0, none⟩ (.int .i64 x)) ⟨w.heap.size, 1, none⟩ (.int .i64 y))
  have HE20 := hJ (show sto x16 w.heap.size 0 [.int .i64 x, .int .i64 y] = x20 from hx20)
  have HQ20s := hJ (show BX 25 x20 w.heap.size #[.int .i64 x, .int .i64 y] by rw [← HE20.out]; exact BX.put HQ1x0w2.out _ _)
  have HC0_3 := hJ (show Below w.heap.size w x20 by rw [← HE20.out]; exact below_sto (bt HB1.out HB16.out) HG1x0.out _ _)
  go_wp2
  clear hx16 cl17 cl18 cl19 fz20_0 fc20_0 fz20_1 fc20_1 hx20
  exact bodyPost_ret (results_cell_row rfl _ _ _ _ _ _ _ rfl HQ20s.out Try.underlying25 rfl G_size) rfl ⟨_, _, rfl, HR.out, HC0_3.out⟩
set_option maxRecDepth 100000 in
set_option maxHeartbeats 1600000 in
theorem bent_any (x y h b : Int) (w : World) (hx : I6 x) (hy : I6 y) (hh : (Lit.int .i64 h).wf = true) (hb0 : (Lit.int .i64 b).wf = true) :
  Calls Try.prog 8 #[.agg #[.int .i64 x, .int .i64 y], .int .i64 h, .int .i64 b] w fun e w' => ∃ x' y', e = .returned (.agg #[.int .i64 x', .int .i64 y']) ∧ I6 x' ∧ I6 y' ∧ Below w.heap.size w w' := by
 have HX := hJ (And.intro hx hy)
 have HH := hJ hh
 have HB := hJ hb0
 obtain ⟨j, hj⟩ : ∃ j : Nat, aroundZ b 10 = (j : Int) ∧ j < 10 := ⟨(aroundZ b 10).toNat, by have := aroundZ_in b (n := 10) (by decide); omega, by have := aroundZ_in b (n := 10) (by decide); omega⟩
 have HJ := hJ hj.1
 have hj9 : (j : Int) < 10 := by have := hj.2; omega
 have hj0 : (0 : Int) ≤ (j : Int) := by omega
 obtain ⟨v, hv, hvw⟩ : ∃ v, (#[.int .i64 b, .int .i64 1073741824, .int .i64 1073741825, .int .i64 (-1073741824), .int .i64 (-1073741825), .int .i64 2147483648, .int .i64 2147483649, .int .i64 (-2147483648), .int .i64 (-2147483649), .int .i64 0] : Array Value)[j]? = some (.int .i64 v) ∧ I6 v := by
  have hcs : j = 0 ∨ j = 1 ∨ j = 2 ∨ j = 3 ∨ j = 4 ∨ j = 5 ∨ j = 6 ∨ j = 7 ∨ j = 8 ∨ j = 9 := by have := hj.2; omega
  rcases hcs with rfl | rfl | rfl | rfl | rfl | rfl | rfl | rfl | rfl | rfl
  ·exact ⟨_, rfl, wf_i6 hb0⟩
  all_goals exact ⟨_, rfl, by decide, by decide⟩
 have HV0 := hJ hv
 have HVW := hJ hvw
 obtain ⟨m, hm⟩ := nmz (aroundZ h 2)
 have HM := hJ hm
 clear hx hy hh hb0 hj hv hvw hm
 obtain ⟨x1, hx1⟩ := nmz (((w.alloc (.cells #[.int .i64 x, .int .i64 y] 25)).alloc (.cells #[.int .i64 0, .int .i64 0] 25)).alloc (.cells #[.int .i64 b, .int .i64 1073741824, .int .i64 1073741825, .int .i64 (-1073741824), .int .i64 (-1073741825), .int .i64 2147483648, .int .i64 2147483649, .int .i64 (-2147483648), .int .i64 (-2147483649), .int .i64 0] 3))
 have HB1 := hJ (show Below w.heap.size w x1 by rw [← hx1]; exact ((((Below.refl _ _).alloc (Nat.le_refl _) _).alloc (by simp only [World.size_alloc]; omega) _).alloc (by simp only [World.size_alloc]; omega) _))
 have HQ1x0 := hJ (show BX 25 x1 w.heap.size #[.int .i64 x, .int .i64 y] by rw [← hx1]; exact (((BX.at rfl).alloc _).alloc _))
 have HG1x0 := hJ (show w.heap.size ≤ w.heap.size by omega)
 have HL1x0 := hJ (show w.heap.size < x1.heap.size from HQ1x0.out.lt)
 have HQ1x1 := hJ (show BX 25 x1 (w.heap.size + 1) #[.int .i64 0, .int .i64 0] by rw [← hx1]; exact ((BX.at (by simp only [World.size_alloc])).alloc _))
 have HG1x1 := hJ (show w.heap.size ≤ w.heap.size + 1 by omega)
 have HL1x1 := hJ (show w.heap.size + 1 < x1.heap.size from HQ1x1.out.lt)
 have HQ1x2 := hJ (show BX 3 x1 (w.heap.size + 2) #[.int .i64 b, .int .i64 1073741824, .int .i64 1073741825, .int .i64 (-1073741824), .int .i64 (-1073741825), .int .i64 2147483648, .int .i64 2147483649, .int .i64 (-2147483648), .int .i64 (-2147483649), .int .i64 0] by rw [← hx1]; exact (BX.at (by simp only [World.size_alloc])))
 have HG1x2 := hJ (show w.heap.size ≤ w.heap.size + 2 by omega)
 have HL1x2 := hJ (show w.heap.size + 2 < x1.heap.size from HQ1x2.out.lt)
 go_enter Try.func8, Try.ntmps8
 go_wp2_with fail
 clear hx1
 refine (aroundz_any b 10 x1 (by decide) (by decide) HB.out).mono ?_
 rw [HJ.out]
 rintro e w2 ⟨rfl, rfl⟩
 have cl3 := HQ1x2.out.cell (j) HV0.out
 by_cases q : m = 0
 ·have q2 : (m == 0) = true := by simp [q]
  clear q
  go_wp2_with fail
  clear cl3
  refine (aroundz_any h 2 x1 (by decide) (by decide) HH.out).mono ?_
  rw [HM.out]
  rintro e w4 ⟨rfl, rfl⟩
  have fz5_0 := HQ1x0.out.frozen 0
  have fc5_0 := HQ1x0.out.cell 0 rfl
  have fz5_1 := HQ1x0.out.frozen 1
  have fc5_1 := HQ1x0.out.cell 1 rfl
  obtain ⟨x5, hx5⟩ := nmz (World.setCell x1 ⟨w.heap.size, 0, none⟩ (.int .i64 v))
  have HE5 := hJ (show sto x1 w.heap.size 0 [.int .i64 v] = x5 from hx5)
  have HQ5s := hJ (show BX 25 x5 w.heap.size #[.int .i64 v, .int .i64 y] by rw [← HE5.out]; exact BX.put HQ1x0.out _ _)
  obtain ⟨cl6, cl7⟩ := HQ5s.out.c2 0 1 rfl rfl
  have HQ1x1w2 := hJ (show BX 25 x5 (w.heap.size + 1) #[.int .i64 0, .int .i64 0] by rw [← HE5.out]; exact BX.far HQ1x1.out (show w.heap.size + 1 ≠ w.heap.size by omega) _ _)
  have fz8_0 := HQ1x1w2.out.frozen 0
  have fc8_0 := HQ1x1w2.out.cell 0 rfl
  have fz8_1 := HQ1x1w2.out.frozen 1
  have fc8_1 := HQ1x1w2.out.cell 1 rfl
  obtain ⟨x8, hx8⟩ := nmz (World.setCell (World.setCell x5 ⟨w.heap.size + 1, 0, none⟩ (.int .i64 v)) ⟨w.heap.size + 1, 1, none⟩ (.int .i64 y))
  have HE8 := hJ (show sto x5 (w.heap.size + 1) 0 [.int .i64 v, .int .i64 y] = x8 from hx8)
  have HQ8s := hJ (show BX 25 x8 (w.heap.size + 1) #[.int .i64 v, .int .i64 y] by rw [← HE8.out]; exact BX.put HQ1x1w2.out _ _)
  have HC0_2 := hJ (show Below w.heap.size w x5 by rw [← HE5.out]; exact below_sto HB1.out HG1x0.out _ _)
  have HC0_3 := hJ (show Below w.heap.size w x8 by rw [← HE8.out]; exact below_sto HC0_2.out HG1x1.out _ _)
  go_wp2
  clear fz5_0 fc5_0 fz5_1 fc5_1 hx5 cl6 cl7 fz8_0 fc8_0 fz8_1 fc8_1 hx8
  exact bodyPost_ret (results_cell_row rfl _ _ _ _ _ _ _ rfl HQ8s.out Try.underlying25 rfl G_size) rfl ⟨_, _, rfl, HVW.out, HX.out.2, HC0_3.out⟩
 ·have q2 : (m == 0) = false := by simp [q]
  clear q
  go_wp2_with fail
  clear cl3
  refine (aroundz_any h 2 x1 (by decide) (by decide) HH.out).mono ?_
  rw [HM.out]
  rintro e w9 ⟨rfl, rfl⟩
  have fz10_0 := HQ1x0.out.frozen 0
  have fc10_0 := HQ1x0.out.cell 0 rfl
  have fz10_1 := HQ1x0.out.frozen 1
  have fc10_1 := HQ1x0.out.cell 1 rfl
  obtain ⟨x10, hx10⟩ := nmz (World.setCell x1 ⟨w.heap.size, 1, none⟩ (.int .i64 v))
  have HE10 := hJ (show sto x1 w.heap.size 1 [.int .i64 v] = x10 from hx10)
  have HQ10s := hJ (show BX 25 x10 w.heap.size #[.int .i64 x, .int .i64 v] by rw [← HE10.out]; exact BX.put HQ1x0.out _ _)
  obtain ⟨cl11, cl12⟩ := HQ10s.out.c2 0 1 rfl rfl
  have HQ1x1w2 := hJ (show BX 25 x10 (w.heap.size + 1) #[.int .i64 0, .int .i64 0] by rw [← HE10.out]; exact BX.far HQ1x1.out (show w.heap.size + 1 ≠ w.heap.size by omega) _ _)
  have fz13_0 := HQ1x1w2.out.frozen 0
  have fc13_0 := HQ1x1w2.out.cell 0 rfl
  have fz13_1 := HQ1x1w2.out.frozen 1
  have fc13_1 := HQ1x1w2.out.cell 1 rfl
  obtain ⟨x13, hx13⟩ := nmz (World.setCell (World.setCell x10 ⟨w.heap.size + 1, 0, none⟩ (.int .i64 x)) ⟨w.heap.size + 1, 1, none⟩ (.int .i64 v))
  have HE13 := hJ (show sto x10 (w.heap.size + 1) 0 [.int .i64 x, .int .i64 v] = x13 from hx13)
  have HQ13s := hJ (show BX 25 x13 (w.heap.size + 1) #[.int .i64 x, .int .i64 v] by rw [← HE13.out]; exact BX.put HQ1x1w2.out _ _)
  have HC0_2 := hJ (show Below w.heap.size w x10 by rw [← HE10.out]; exact below_sto HB1.out HG1x0.out _ _)
  have HC0_3 := hJ (show Below w.heap.size w x13 by rw [← HE13.out]; exact below_sto HC0_2.out HG1x1.out _ _)
  go_wp2
  clear fz10_0 fc10_0 fz10_1 fc10_1 hx10 cl11 cl12 fz13_0 fc13_0 fz13_1 fc13_1 hx13
  exact bodyPost_ret (results_cell_row rfl _ _ _ _ _ _ _ rfl HQ13s.out Try.underlying25 rfl G_size) rfl ⟨_, _, rfl, HX.out.1, HVW.out, HC0_3.out⟩
end Go.Proofs.Ytdamadkhbeonaaa
