/- Contracts of the reference's points: sign, Compare, In, Meets, floor, nearest, Whole, Round. Conditions: as each statement has them. -/
import Derived.Test.YtfmccalkfagafaaQE
namespace Go.Proofs.Ytfmccalkfagafaa
open Go.RowKit
attribute [local go_sem ↓] Go.wp_at_zero Go.wp_at_succ
set_option maxRecDepth 100000 in
set_option maxHeartbeats 6400000 in
theorem rsign_any (n : Int) (w : World) :
    Calls Try.prog 42 #[.int .i64 n] w fun e w' => e = .returned (.int .i64 (cmpI n 0)) ∧ w = w' := by
  rcases cmpI_cases n 0 with ⟨h, hv⟩ | ⟨h, hv⟩ | ⟨h, hv⟩
  all_goals
    rw [hv]
    clear hv
    try subst h
    go_enter Try.func42, Try.ntmps42
    go_wp2
    go_ret
    exact ⟨rfl, rfl⟩
theorem cmpI_sub (a b : Int) : cmpI (a - b) 0 = cmpI a b := by unfold cmpI; split <;> split <;> (try split) <;> (try split) <;> omega
theorem mul_in {a b : Int} {m n : Nat} (ha : a.natAbs ≤ m) (hb : b.natAbs ≤ n) : (a * b).natAbs ≤ m * n := by rw [Int.natAbs_mul]; exact Nat.mul_le_mul ha hb
/-- The order of two points of the reference. -/
def rcV (X Y D X' Y' D' : Int) : Int := if cmpI (X * D') (X' * D) = 0 then cmpI (Y * D') (Y' * D) else cmpI (X * D') (X' * D)
/-- Small enough. -/
def Sb (X Y D : Int) : Prop := (0 < D ∧ D ≤ 12) ∧ (-400 ≤ X ∧ X ≤ 400) ∧ (-400 ≤ Y ∧ Y ≤ 400)
theorem Sm.sb {X Y D : Int} (h : Sm X Y D) : Sb X Y D := ⟨h.1, h.2.1, h.2.2.1⟩
set_option maxRecDepth 100000 in
set_option maxHeartbeats 6400000 in
theorem rcmp_any (X Y D X' Y' D' : Int) (w : World) (h : Sb X Y D) (h' : Sb X' Y' D') :
    Calls Try.prog 13 #[.agg #[.int .i64 X, .int .i64 Y, .int .i64 D], .agg #[.int .i64 X', .int .i64 Y', .int .i64 D']] w fun e w' => e = .returned (.int .i64 (rcV X Y D X' Y' D')) ∧ Below w.heap.size w w' := by
  obtain ⟨⟨d0, d1⟩, ⟨x0, x1⟩, y0, y1⟩ := h
  obtain ⟨⟨d0', d1'⟩, ⟨x0', x1'⟩, y0', y1'⟩ := h'
  have m1 := mul_in (show X.natAbs ≤ 400 by omega) (show D'.natAbs ≤ 12 by omega)
  have m2 := mul_in (show X'.natAbs ≤ 400 by omega) (show D.natAbs ≤ 12 by omega)
  have m3 := mul_in (show Y.natAbs ≤ 400 by omega) (show D'.natAbs ≤ 12 by omega)
  have m4 := mul_in (show Y'.natAbs ≤ 400 by omega) (show D.natAbs ≤ 12 by omega)
  have e1 : IntKind.i64.wrap (X * D') = X * D' := IntWalk.i64_in _ (by omega)
  have e2 : IntKind.i64.wrap (X' * D) = X' * D := IntWalk.i64_in _ (by omega)
  have e3 : IntKind.i64.wrap (Y * D') = Y * D' := IntWalk.i64_in _ (by omega)
  have e4 : IntKind.i64.wrap (Y' * D) = Y' * D := IntWalk.i64_in _ (by omega)
  have e5 : IntKind.i64.wrap (X * D' - X' * D) = X * D' - X' * D := IntWalk.i64_in _ (by omega)
  have e6 : IntKind.i64.wrap (Y * D' - Y' * D) = Y * D' - Y' * D := IntWalk.i64_in _ (by omega)
  clear m1 m2 m3 m4 d0 d1 x0 x1 y0 y1 d0' d1' x0' x1' y0' y1'
  obtain ⟨W, hW⟩ : ∃ W, (w.alloc (.cells #[.int .i64 X, .int .i64 Y, .int .i64 D] 23)).alloc (.cells #[.int .i64 X', .int .i64 Y', .int .i64 D'] 23) = W := ⟨_, rfl⟩
  have HK := Lib.hid (show Below w.heap.size w W by rw [← hW]; exact ((Below.refl _ w).alloc (Nat.le_refl _) _).alloc (by simp) _)
  have HA := Lib.hid (show P3 23 W w.heap.size (.int .i64 X) (.int .i64 Y) (.int .i64 D) by rw [← hW]; exact (P3.lit w _ _ _ _ ).new ((Below.refl _ _).alloc (Nat.le_refl _) _))
  have HB := Lib.hid (show P3 23 W (w.heap.size + 1) (.int .i64 X') (.int .i64 Y') (.int .i64 D') by
    rw [← hW]
    have h0 := P3.lit (w.alloc (.cells #[.int .i64 X, .int .i64 Y, .int .i64 D] 23)) 23 (.int .i64 X') (.int .i64 Y') (.int .i64 D')
    rw [World.size_alloc] at h0
    exact h0)
  obtain ⟨a0, a1, a2⟩ := HA.out.cells
  obtain ⟨b0, b1, b2⟩ := HB.out.cells
  obtain ⟨k, hk⟩ : ∃ k, cmpI (X * D') (X' * D) = k := ⟨_, rfl⟩
  have HKV := Lib.hid hk
  clear hk
  go_enter Try.func13, Try.ntmps13
  go_wp2_with fail
  refine (rsign_any _ W).mono ?_
  rw [cmpI_sub, HKV.out]
  rintro e w1 ⟨rfl, rfl⟩
  by_cases h0 : k = 0
  · subst h0
    have HV := Lib.hid (show rcV X Y D X' Y' D' = cmpI (Y * D') (Y' * D) from if_pos HKV.out)
    go_wp2_with fail
    refine (rsign_any _ W).mono ?_
    rw [cmpI_sub]
    rintro e w1 ⟨rfl, rfl⟩
    go_wp2_with fail
    go_ret
    exact ⟨by rw [HV.out]; rfl, HK.out⟩
  · have HV := Lib.hid (show rcV X Y D X' Y' D' = k by unfold rcV; rw [HKV.out, if_neg h0])
    have h1 : (k == 0) = false := by simp [h0]
    clear h0
    go_wp2_with fail
    go_ret
    exact ⟨by rw [HV.out]; rfl, HK.out⟩
/-- A point of the reference lies in a box. -/
def rinV (a b x y X Y D : Int) : Bool := decide (((a * D ≤ X ∧ X ≤ x * D) ∧ b * D ≤ Y) ∧ Y ≤ y * D)
set_option maxRecDepth 100000 in
set_option maxHeartbeats 6400000 in
theorem rin_any (a b x y X Y D : Int) (w : World) (h : Sb X Y D) (ha : Co a) (hb : Co b) (hx : Co x) (hy : Co y) :
    Calls Try.prog 30 #[.agg #[.int .i64 a, .int .i64 b, .int .i64 x, .int .i64 y], .agg #[.int .i64 X, .int .i64 Y, .int .i64 D]] w fun e w' => e = .returned (.bool (rinV a b x y X Y D)) ∧ Below w.heap.size w w' := by
  obtain ⟨⟨d0, d1⟩, ⟨x0, x1⟩, y0, y1⟩ := h
  obtain ⟨a0, a1⟩ := ha
  obtain ⟨b0, b1⟩ := hb
  obtain ⟨x0', x1'⟩ := hx
  obtain ⟨y0', y1'⟩ := hy
  have m1 := mul_in (show a.natAbs ≤ 32 by omega) (show D.natAbs ≤ 12 by omega)
  have m2 := mul_in (show b.natAbs ≤ 32 by omega) (show D.natAbs ≤ 12 by omega)
  have m3 := mul_in (show x.natAbs ≤ 32 by omega) (show D.natAbs ≤ 12 by omega)
  have m4 := mul_in (show y.natAbs ≤ 32 by omega) (show D.natAbs ≤ 12 by omega)
  have e1 : IntKind.i64.wrap (a * D) = a * D := IntWalk.i64_in _ (by omega)
  have e2 : IntKind.i64.wrap (b * D) = b * D := IntWalk.i64_in _ (by omega)
  have e3 : IntKind.i64.wrap (x * D) = x * D := IntWalk.i64_in _ (by omega)
  have e4 : IntKind.i64.wrap (y * D) = y * D := IntWalk.i64_in _ (by omega)
  clear m1 m2 m3 m4 d0 d1 x0 x1 y0 y1 a0 a1 b0 b1 x0' x1' y0' y1'
  obtain ⟨W, hW⟩ : ∃ W, (w.alloc (.cells #[.int .i64 a, .int .i64 b, .int .i64 x, .int .i64 y] 64)).alloc (.cells #[.int .i64 X, .int .i64 Y, .int .i64 D] 23) = W := ⟨_, rfl⟩
  have HK := Lib.hid (show Below w.heap.size w W by rw [← hW]; exact ((Below.refl _ w).alloc (Nat.le_refl _) _).alloc (by simp) _)
  have HA := Lib.hid (show P4 64 W w.heap.size (.int .i64 a) (.int .i64 b) (.int .i64 x) (.int .i64 y) by rw [← hW]; exact (P4.lit w _ _ _ _ _ ).new ((Below.refl _ _).alloc (Nat.le_refl _) _))
  have HB := Lib.hid (show P3 23 W (w.heap.size + 1) (.int .i64 X) (.int .i64 Y) (.int .i64 D) by
    rw [← hW]
    have h0 := P3.lit (w.alloc (.cells #[.int .i64 a, .int .i64 b, .int .i64 x, .int .i64 y] 64)) 23 (.int .i64 X) (.int .i64 Y) (.int .i64 D)
    rw [World.size_alloc] at h0
    exact h0)
  obtain ⟨q0, q1, q2, q3⟩ := HA.out.cells
  obtain ⟨r0, r1, r2⟩ := HB.out.cells
  go_enter Try.func30, Try.ntmps30
  by_cases h0 : a * D ≤ X
  · skip
    by_cases h1 : X ≤ x * D
    · skip
      by_cases h2 : b * D ≤ Y
      · skip
        by_cases h3 : Y ≤ y * D
        · have HV := Lib.hid (show rinV a b x y X Y D = true from decide_eq_true ⟨⟨⟨h0, h1⟩, h2⟩, h3⟩)
          go_wp2_with fail
          go_ret
          exact ⟨by rw [HV.out]; rfl, HK.out⟩
        · have HV := Lib.hid (show rinV a b x y X Y D = false from decide_eq_false (fun h => h3 h.2))
          go_wp2_with fail
          go_ret
          exact ⟨by rw [HV.out]; rfl, HK.out⟩
      · have HV := Lib.hid (show rinV a b x y X Y D = false from decide_eq_false (fun h => h2 h.1.2))
        go_wp2_with fail
        go_ret
        exact ⟨by rw [HV.out]; rfl, HK.out⟩
    · have HV := Lib.hid (show rinV a b x y X Y D = false from decide_eq_false (fun h => h1 h.1.1.2))
      go_wp2_with fail
      go_ret
      exact ⟨by rw [HV.out]; rfl, HK.out⟩
  · have HV := Lib.hid (show rinV a b x y X Y D = false from decide_eq_false (fun h => h0 h.1.1.1))
    go_wp2_with fail
    go_ret
    exact ⟨by rw [HV.out]; rfl, HK.out⟩
set_option maxRecDepth 100000 in
set_option maxHeartbeats 6400000 in
theorem rmeets_any (a b x y a' b' x' y' : Int) (w : World) :
    Calls Try.prog 33 #[.agg #[.int .i64 a, .int .i64 b, .int .i64 x, .int .i64 y], .agg #[.int .i64 a', .int .i64 b', .int .i64 x', .int .i64 y']] w fun e w' => e = .returned (.bool (mtV a b x y a' b' x' y')) ∧ Below w.heap.size w w' := by
  obtain ⟨W, hW⟩ : ∃ W, (w.alloc (.cells #[.int .i64 a, .int .i64 b, .int .i64 x, .int .i64 y] 64)).alloc (.cells #[.int .i64 a', .int .i64 b', .int .i64 x', .int .i64 y'] 64) = W := ⟨_, rfl⟩
  have HK := Lib.hid (show Below w.heap.size w W by rw [← hW]; exact ((Below.refl _ w).alloc (Nat.le_refl _) _).alloc (by simp) _)
  have HA := Lib.hid (show P4 64 W w.heap.size (.int .i64 a) (.int .i64 b) (.int .i64 x) (.int .i64 y) by rw [← hW]; exact (P4.lit w _ _ _ _ _ ).new ((Below.refl _ _).alloc (Nat.le_refl _) _))
  have HB := Lib.hid (show P4 64 W (w.heap.size + 1) (.int .i64 a') (.int .i64 b') (.int .i64 x') (.int .i64 y') by
    rw [← hW]
    have h0 := P4.lit (w.alloc (.cells #[.int .i64 a, .int .i64 b, .int .i64 x, .int .i64 y] 64)) 64 (.int .i64 a') (.int .i64 b') (.int .i64 x') (.int .i64 y')
    rw [World.size_alloc] at h0
    exact h0)
  obtain ⟨q0, q1, q2, q3⟩ := HA.out.cells
  obtain ⟨r0, r1, r2, r3⟩ := HB.out.cells
  go_enter Try.func33, Try.ntmps33
  go_wp2_with fail
  all_goals
    go_ret
    refine ⟨?_, HK.out⟩
    first
      | exact congrArg (fun z => Ending.returned (.bool z)) (show false = mtV a b x y a' b' x' y' from (decide_eq_false (by omega)).symm)
      | exact congrArg (fun z => Ending.returned (.bool z)) (show true = mtV a b x y a' b' x' y' from (decide_eq_true (by omega)).symm)
      | (refine congrArg (fun z => Ending.returned (.bool z)) ?_; unfold mtV; exact decide_eq_decide.2 (by omega))
theorem floor_neg {n d : Int} (hd : 0 < d) : -((-n + d - 1) / d) = n / d := by
  obtain ⟨q, hq⟩ : ∃ q, (-n + d - 1) / d = q := ⟨_, rfl⟩
  have h1 : q * d ≤ -n + d - 1 := by rw [← hq]; exact Int.ediv_mul_le _ (by omega)
  have h2 : -n + d - 1 < (q + 1) * d := by rw [← hq]; exact Int.lt_ediv_add_one_mul_self _ hd
  rw [Int.add_mul, Int.one_mul] at h2
  rw [hq]
  have e : -q * d = -(q * d) := Int.neg_mul _ _
  have e2 : (-q + 1) * d = -(q * d) + d := by rw [Int.add_mul, Int.one_mul, e]
  have l1 : -q ≤ n / d := (Int.le_ediv_iff_mul_le hd).2 (by rw [e]; omega)
  have l2 : n / d < -q + 1 := (Int.ediv_lt_iff_lt_mul hd).2 (by rw [e2]; omega)
  omega
theorem quo_bound {n d : Int} (hd : 0 < d) (h : 0 ≤ n) : 0 ≤ n / d ∧ n / d ≤ n := ⟨Int.ediv_nonneg h (by omega), Int.ediv_le_self _ h⟩
set_option maxRecDepth 100000 in
set_option maxHeartbeats 6400000 in
theorem floor_any (n d : Int) (w : World) (hd : 0 < d ∧ d ≤ 1099511627776) (hn : -1099511627776 ≤ n ∧ n ≤ 1099511627776) :
    Calls Try.prog 77 #[.int .i64 n, .int .i64 d] w fun e w' => e = .returned (.int .i64 (n / d)) ∧ w = w' := by
  obtain ⟨hd0, hd1⟩ := hd
  obtain ⟨hn0, hn1⟩ := hn
  have hdn : d ≠ 0 := by omega
  by_cases h : n < 0
  · have e1 : IntKind.i64.wrap (-n) = -n := IntWalk.i64_in _ (by omega)
    have e2 : IntKind.i64.wrap (-n + d) = -n + d := IntWalk.i64_in _ (by omega)
    have e3 : IntKind.i64.wrap (-n + d - 1) = -n + d - 1 := IntWalk.i64_in _ (by omega)
    obtain ⟨q0, q1⟩ := quo_bound hd0 (show 0 ≤ -n + d - 1 by omega)
    have HF := Lib.hid (floor_neg (n := n) hd0)
    obtain ⟨m, hm⟩ : ∃ m, -n + d - 1 = m := ⟨_, rfl⟩
    rw [hm] at q0 q1 HF
    have hm0 : 0 ≤ m := by omega
    have e4 : IntKind.i64.wrap (m.tdiv d) = m / d := by rw [Int.tdiv_eq_ediv_of_nonneg hm0]; exact IntWalk.i64_in _ (by omega)
    have e5 : IntKind.i64.wrap (-(m / d)) = -(m / d) := IntWalk.i64_in _ (by omega)
    have e6 : IntKind.i64.wrap (m / d) = m / d := IntWalk.i64_in _ (by omega)
    clear q0 q1
    go_enter Try.func77, Try.ntmps77
    go_wp2
    go_ret
    exact ⟨by rw [← HF.out]; rfl, rfl⟩
  · have h0 : 0 ≤ n := by omega
    obtain ⟨q0, q1⟩ := quo_bound hd0 h0
    have e4 : IntKind.i64.wrap (n.tdiv d) = n / d := by rw [Int.tdiv_eq_ediv_of_nonneg h0]; exact IntWalk.i64_in _ (by omega)
    have e6 : IntKind.i64.wrap (n / d) = n / d := IntWalk.i64_in _ (by omega)
    clear q0 q1
    go_enter Try.func77, Try.ntmps77
    go_wp2
    go_ret
    exact ⟨rfl, rfl⟩
/-- The nearest integer. -/
def nrV (n d : Int) : Int := -((d - 2 * n) / (2 * d))
set_option maxRecDepth 100000 in
set_option maxHeartbeats 6400000 in
theorem near_any (n d : Int) (w : World) (hd : 0 < d ∧ d ≤ 1048576) (hn : -68719476736 ≤ n ∧ n ≤ 68719476736) :
    Calls Try.prog 49 #[.int .i64 n, .int .i64 d] w fun e w' => e = .returned (.int .i64 (nrV n d)) ∧ w = w' := by
  have HD := Lib.hid (And.intro hd hn)
  have e1 : IntKind.i64.wrap (2 * n) = 2 * n := IntWalk.i64_in _ (by omega)
  have e2 : IntKind.i64.wrap (d - 2 * n) = d - 2 * n := IntWalk.i64_in _ (by omega)
  have e3 : IntKind.i64.wrap (2 * d) = 2 * d := IntWalk.i64_in _ (by omega)
  have hq : -1099511627776 ≤ (d - 2 * n) / (2 * d) ∧ (d - 2 * n) / (2 * d) ≤ 1099511627776 := by
    have h1 := Int.natAbs_ediv_le_natAbs (d - 2 * n) (2 * d)
    omega
  have e4 : IntKind.i64.wrap (-((d - 2 * n) / (2 * d))) = -((d - 2 * n) / (2 * d)) := IntWalk.i64_in _ (by omega)
  clear hd hn hq
  go_enter Try.func49, Try.ntmps49
  go_wp2_with fail
  refine (floor_any (d - 2 * n) (2 * d) w (by have := HD.out; omega) (by have := HD.out; omega)).mono ?_
  rintro e w1 ⟨rfl, rfl⟩
  go_wp2_with fail
  go_ret
  exact ⟨rfl, rfl⟩
/-- What Whole returns. -/
def rwK (X Y D : Int) : Prop := D = 1 ∧ vdC X Y = 0
instance (X Y D : Int) : Decidable (rwK X Y D) := by unfold rwK; infer_instance
def rwX (X Y D : Int) : Int := if rwK X Y D then X else 0
def rwY (X Y D : Int) : Int := if rwK X Y D then Y else 0
def rwB (X Y D : Int) : Bool := decide (rwK X Y D)
set_option maxRecDepth 100000 in
set_option maxHeartbeats 6400000 in
theorem rwhole_any (X Y D : Int) (w : World) :
    Calls Try.prog 18 #[.agg #[.int .i64 X, .int .i64 Y, .int .i64 D]] w fun e w' => e = .returned (.tuple #[.agg #[.int .i64 (rwX X Y D), .int .i64 (rwY X Y D)], .bool (rwB X Y D)]) ∧ Below w.heap.size w w' := by
  obtain ⟨W, hW⟩ : ∃ W, ((w.alloc (.cells #[.int .i64 X, .int .i64 Y, .int .i64 D] 23)).alloc (.cells #[.int .i64 0, .int .i64 0] 44)) = W := ⟨_, rfl⟩
  have HK := Lib.hid (show Below w.heap.size w W by rw [← hW]; exact ((Below.refl _ w).alloc (Nat.le_refl _) _).alloc (by simp) _)
  have HA := Lib.hid (show P3 23 W w.heap.size (.int .i64 X) (.int .i64 Y) (.int .i64 D) by rw [← hW]; exact (P3.lit w _ _ _ _).new ((Below.refl _ _).alloc (Nat.le_refl _) _))
  have HZ := Lib.hid (show P2 44 W (w.heap.size + 1) (.int .i64 0) (.int .i64 0) by
    rw [← hW]
    have h0 := P2.lit (w.alloc (.cells #[.int .i64 X, .int .i64 Y, .int .i64 D] 23)) 44 (.int .i64 0) (.int .i64 0)
    rw [World.size_alloc] at h0
    exact h0)
  obtain ⟨h, hh⟩ : ∃ h, w.heap.size = h := ⟨_, rfl⟩
  rw [hh] at HA HZ
  have HH := Lib.hid hh
  obtain ⟨a0, a1, a2⟩ := HA.out.cells
  obtain ⟨W2, hW2⟩ : ∃ z, W.alloc (.cells #[.int .i64 X, .int .i64 Y] 44) = z := ⟨_, rfl⟩
  have HN2 := Lib.hid (show Below W.heap.size W W2 by rw [← hW2]; exact (Below.refl _ _).alloc (Nat.le_refl _) _)
  have HQ2 := Lib.hid (show P2 44 W2 W.heap.size (.int .i64 X) (.int .i64 Y) by rw [← hW2]; exact P2.lit _ _ _ _)
  obtain ⟨g, hg⟩ : ∃ g, W.heap.size = g := ⟨_, rfl⟩
  rw [hg] at HQ2
  have HA2 := Lib.hid (HA.out.new HN2.out)
  have HZ2 := Lib.hid (HZ.out.new HN2.out)
  have HB2 := Lib.hid (bt HK.out HN2.out)
  obtain ⟨a0', a1', a2'⟩ := HA2.out.cells
  obtain ⟨q0, q1⟩ := HQ2.out.cells
  obtain ⟨z0, z1⟩ := HZ2.out.cells
  have f0 := HZ2.out.frozen 0
  have f1 := HZ2.out.frozen 1
  go_enter Try.func18, Try.ntmps18
  by_cases h1 : D = 1
  · subst h1
    go_wp2_with fail
    clear hW hh hW2 hg a0 a1 a2 a0' a1' a2'
    refine (good_any X Y W2).mono ?_
    rintro e w3 ⟨rfl, hb3⟩
    have HQ3 := Lib.hid (HQ2.out.new hb3)
    have HZ3 := Lib.hid (HZ2.out.new hb3)
    have HB3 := Lib.hid (bt HB2.out hb3)
    clear hb3 q0 q1 z0 z1 f0 f1
    obtain ⟨q0, q1⟩ := HQ3.out.cells
    obtain ⟨z0, z1⟩ := HZ3.out.cells
    have f0 := HZ3.out.frozen 0
    have f1 := HZ3.out.frozen 1
    rcases vd_cases X Y with hv | hv
    · have HV := Lib.hid (show rwX X Y 1 = X ∧ rwY X Y 1 = Y ∧ rwB X Y 1 = true from ⟨if_pos ⟨rfl, hv⟩, if_pos ⟨rfl, hv⟩, decide_eq_true ⟨rfl, hv⟩⟩)
      rw [hv]
      clear hv
      go_wp2_with fail
      exact bodyPost_ret (results_cell1 rfl _ _ _ _ _ _ _ rfl (HZ3.out.all (.int .i64 (X)) (.int .i64 (Y))) Try.underlying44 rfl G_size) rfl ⟨by rw [HV.out.1, HV.out.2.1, HV.out.2.2]; rfl, below_box HB3.out (by rw [HH.out]; omega) _ _⟩
    · have hn : ¬ rwK X Y 1 := fun h => by have := h.2; rw [hv] at this; exact absurd this (by decide)
      have HV := Lib.hid (show rwX X Y 1 = 0 ∧ rwY X Y 1 = 0 ∧ rwB X Y 1 = false from ⟨if_neg hn, if_neg hn, decide_eq_false hn⟩)
      rw [hv]
      clear hv hn
      go_wp2_with fail
      exact bodyPost_ret (results_cell1 rfl _ _ _ _ _ _ _ rfl (HZ3.out.all (.int .i64 (0)) (.int .i64 (0))) Try.underlying44 rfl G_size) rfl ⟨by rw [HV.out.1, HV.out.2.1, HV.out.2.2]; rfl, below_box HB3.out (by rw [HH.out]; omega) _ _⟩
  · have hn : ¬ rwK X Y D := fun h => h1 h.1
    have HV := Lib.hid (show rwX X Y D = 0 ∧ rwY X Y D = 0 ∧ rwB X Y D = false from ⟨if_neg hn, if_neg hn, decide_eq_false hn⟩)
    have hd : (D == 1) = false := by simp [h1]
    clear hn
    go_wp2_with fail
    exact bodyPost_ret (results_cell1 rfl _ _ _ _ _ _ _ rfl (HZ2.out.all (.int .i64 (0)) (.int .i64 (0))) Try.underlying44 rfl G_size) rfl ⟨by rw [HV.out.1, HV.out.2.1, HV.out.2.2]; rfl, below_box HB2.out (by rw [HH.out]; omega) _ _⟩
def rrK (X Y D : Int) : Prop := vdC (nrV X D) (nrV Y D) = 0
instance (X Y D : Int) : Decidable (rrK X Y D) := by unfold rrK; infer_instance
def rrX (X Y D : Int) : Int := if rrK X Y D then nrV X D else 0
def rrY (X Y D : Int) : Int := if rrK X Y D then nrV Y D else 0
def rrC (X Y D : Int) : Int := vdC (nrV X D) (nrV Y D)
set_option maxRecDepth 100000 in
set_option maxHeartbeats 6400000 in
theorem rround_any (X Y D : Int) (w : World) (hl : (0 < D ∧ D ≤ 1048576) ∧ (-68719476736 ≤ X ∧ X ≤ 68719476736) ∧ (-68719476736 ≤ Y ∧ Y ≤ 68719476736)) :
    Calls Try.prog 20 #[.agg #[.int .i64 X, .int .i64 Y, .int .i64 D]] w fun e w' => e = .returned (.tuple #[.agg #[.int .i64 (rrX X Y D), .int .i64 (rrY X Y D)], .int .i64 (rrC X Y D)]) ∧ Below w.heap.size w w' := by
  have HL := Lib.hid hl
  clear hl
  obtain ⟨W, hW⟩ : ∃ W, ((w.alloc (.cells #[.int .i64 X, .int .i64 Y, .int .i64 D] 23)).alloc (.cells #[.int .i64 0, .int .i64 0] 44)) = W := ⟨_, rfl⟩
  have HK := Lib.hid (show Below w.heap.size w W by rw [← hW]; exact ((Below.refl _ w).alloc (Nat.le_refl _) _).alloc (by simp) _)
  have HA := Lib.hid (show P3 23 W w.heap.size (.int .i64 X) (.int .i64 Y) (.int .i64 D) by rw [← hW]; exact (P3.lit w _ _ _ _).new ((Below.refl _ _).alloc (Nat.le_refl _) _))
  have HZ := Lib.hid (show P2 44 W (w.heap.size + 1) (.int .i64 0) (.int .i64 0) by
    rw [← hW]
    have h0 := P2.lit (w.alloc (.cells #[.int .i64 X, .int .i64 Y, .int .i64 D] 23)) 44 (.int .i64 0) (.int .i64 0)
    rw [World.size_alloc] at h0
    exact h0)
  obtain ⟨h, hh⟩ : ∃ h, w.heap.size = h := ⟨_, rfl⟩
  rw [hh] at HA HZ
  have HH := Lib.hid hh
  go_enter Try.func20, Try.ntmps20
  go_wp2_with fail
  clear hW hh
  have HS : Hid (∀ w', Below W.heap.size W w' → (fun w' : World => w'.cell? ⟨h, 0, none⟩ = some (.int .i64 X) ∧ w'.cell? ⟨h, 1, none⟩ = some (.int .i64 Y) ∧ w'.cell? ⟨h, 2, none⟩ = some (.int .i64 D) ∧ Below W.heap.size W w') w') := Lib.hid (fun w' hb => ⟨(HA.out.new hb).cells.1, (HA.out.new hb).cells.2.1, (HA.out.new hb).cells.2.2, hb⟩)
  have HXX := Lib.hid (Below.refl W.heap.size W)
  obtain ⟨x, hx⟩ : ∃ x, nrV X D = x := ⟨_, rfl⟩
  obtain ⟨y, hy⟩ : ∃ y, nrV Y D = y := ⟨_, rfl⟩
  have HXY := Lib.hid (And.intro hx hy)
  clear hx hy
  obtain ⟨v0, hv0⟩ : ∃ z, World.drew W = z := ⟨_, rfl⟩
  have HD0 := Lib.hid (show Below W.heap.size W v0 by rw [← hv0]; exact (Below.refl _ _).drew)
  have HX_0 := Lib.hid (bt HXX.out HD0.out)
  have HP_z_0 := Lib.hid (HZ.out.new HD0.out)
  refine wp_region_held_drew (S := (fun w' : World => w'.cell? ⟨h, 0, none⟩ = some (.int .i64 X) ∧ w'.cell? ⟨h, 1, none⟩ = some (.int .i64 Y) ∧ w'.cell? ⟨h, 2, none⟩ = some (.int .i64 D) ∧ Below W.heap.size W w')) (by kernel_rfl) ?_ (fun hHeld => ?_)
  · rw [hv0]
    exact ⟨(HA.out.new HX_0.out).cells.1, (HA.out.new HX_0.out).cells.2.1, (HA.out.new HX_0.out).cells.2.2, HX_0.out⟩
  rw [hv0] at hHeld ⊢
  clear hv0 HD0
  refine wpAnyH_take (i := 0) (v := ?_) rfl (by kernel_rfl) (by kernel_rfl) (by kernel_rfl) (fun _ _ _ h => h) (Or.inl ⟨by kernel_rfl, ?_⟩) (by assumption) ?_
  rotate_left
  · intro w hSw
    (try dsimp only at hSw)
    go_simp
    all_goals (with_reducible rfl)
  try simp only [Act.put, List.getElem_toArray, List.getElem_cons_zero, List.setIfInBounds_toArray, List.set_cons_zero, List.set_cons_succ]
  refine wpAnyH_take (i := 1) (v := ?_) rfl (by kernel_rfl) (by kernel_rfl) (by kernel_rfl) (fun _ _ _ h => h) (Or.inl ⟨by kernel_rfl, ?_⟩) (by assumption) ?_
  rotate_left
  · intro w hSw
    (try dsimp only at hSw)
    go_simp
    all_goals (with_reducible rfl)
  try simp only [Act.put, List.getElem_toArray, List.getElem_cons_zero, List.getElem_cons_succ, List.setIfInBounds_toArray, List.set_cons_zero, List.set_cons_succ]
  refine wpAnyH_take (i := 2) (v := ?_) rfl (by kernel_rfl) (by kernel_rfl) (by kernel_rfl) (fun _ _ _ h => h) (Or.inl ⟨by kernel_rfl, ?_⟩) (by assumption) ?_
  rotate_left
  · intro w hSw
    (try dsimp only at hSw)
    go_simp
    all_goals (with_reducible rfl)
  try simp only [Act.put, List.getElem_toArray, List.getElem_cons_zero, List.getElem_cons_succ, List.setIfInBounds_toArray, List.set_cons_zero, List.set_cons_succ]
  refine wpAnyH_take (i := 3) (v := ?_) rfl (by kernel_rfl) (by kernel_rfl) (by kernel_rfl) (fun _ _ _ h => h) (Or.inl ⟨by kernel_rfl, ?_⟩) (by assumption) ?_
  rotate_left
  · intro w hSw
    (try dsimp only at hSw)
    go_simp
    all_goals (with_reducible rfl)
  try simp only [Act.put, List.getElem_toArray, List.getElem_cons_zero, List.getElem_cons_succ, List.setIfInBounds_toArray, List.set_cons_zero, List.set_cons_succ]
  refine wpAnyH_take (i := 5) (v := ?_) rfl (by kernel_rfl) (by kernel_rfl) (by kernel_rfl) (fun _ _ _ h => h) (Or.inl ⟨by kernel_rfl, ?_⟩) (by assumption) ?_
  rotate_left
  · intro w hSw
    (try dsimp only at hSw)
    go_simp
    all_goals (with_reducible rfl)
  try simp only [Act.put, List.getElem_toArray, List.getElem_cons_zero, List.getElem_cons_succ, List.setIfInBounds_toArray, List.set_cons_zero, List.set_cons_succ]
  refine wpAnyH_take (i := 6) (v := ?_) rfl (by kernel_rfl) (by kernel_rfl) (by kernel_rfl) (fun _ _ _ h => h) (Or.inl ⟨by kernel_rfl, ?_⟩) (by assumption) ?_
  rotate_left
  · intro w hSw
    (try dsimp only at hSw)
    go_simp
    all_goals (with_reducible rfl)
  try simp only [Act.put, List.getElem_toArray, List.getElem_cons_zero, List.getElem_cons_succ, List.setIfInBounds_toArray, List.set_cons_zero, List.set_cons_succ]
  refine wpAnyH_take (i := 7) (v := ?_) rfl (by kernel_rfl) (by kernel_rfl) (by kernel_rfl) (fun _ _ _ h => h) (Or.inl ⟨by kernel_rfl, ?_⟩) (by assumption) ?_
  rotate_left
  · intro w hSw
    (try dsimp only at hSw)
    go_simp
    all_goals (with_reducible rfl)
  try simp only [Act.put, List.getElem_toArray, List.getElem_cons_zero, List.getElem_cons_succ, List.setIfInBounds_toArray, List.set_cons_zero, List.set_cons_succ]
  refine wpAnyH_take (i := 8) (v := ?_) rfl (by kernel_rfl) (by kernel_rfl) (by kernel_rfl) (fun _ _ _ h => h) (Or.inl ⟨by kernel_rfl, ?_⟩) (by assumption) ?_
  rotate_left
  · intro w hSw
    (try dsimp only at hSw)
    go_simp
    all_goals (with_reducible rfl)
  try simp only [Act.put, List.getElem_toArray, List.getElem_cons_zero, List.getElem_cons_succ, List.setIfInBounds_toArray, List.set_cons_zero, List.set_cons_succ]
  refine wpAnyH_ready (rs := [4, 11]) (by kernel_rfl) (by simp) ?_
  refine AllReadyH.cons rfl (fun K hK => ?_) ?_
  go_simp
  go_at_call_of 49 (Value.int .i64 X)
  refine (near_any X D v0 HL.out.1 HL.out.2.1).mono ?_
  rw [HXY.out.1]
  rintro e v1 ⟨rfl, hw⟩
  have hk : Below v0.heap.size v0 v1 := by rw [← hw]; exact Below.refl _ _
  clear hw
  have HB_1 := Lib.hid hk
  go_wp2_with fail
  have HX_1 := Lib.hid (bt HX_0.out HB_1.out)
  have HP_z_1 := Lib.hid (HP_z_0.out.new HB_1.out)
  refine hK.out _ _ (⟨(HA.out.new HX_1.out).cells.1, (HA.out.new HX_1.out).cells.2.1, (HA.out.new HX_1.out).cells.2.2, HX_1.out⟩) (fun hHeld2 => ?_)
  clear hHeld
  have hHeld := hHeld2
  clear hHeld2 hK K hk HB_1 HX_0 HP_z_0
  try simp only [Act.put, List.getElem_toArray, List.getElem_cons_zero, List.getElem_cons_succ, List.setIfInBounds_toArray, List.set_cons_zero, List.set_cons_succ]
  refine wpAnyH_ready (rs := [9, 11]) (by kernel_rfl) (by simp) ?_
  refine AllReadyH.cons rfl (fun K hK => ?_) ?_
  go_simp
  go_at_call_of 49 (Value.int .i64 Y)
  refine (near_any Y D v1 HL.out.1 HL.out.2.2).mono ?_
  rw [HXY.out.2]
  rintro e v2 ⟨rfl, hw⟩
  have hk : Below v1.heap.size v1 v2 := by rw [← hw]; exact Below.refl _ _
  clear hw
  have HB_2 := Lib.hid hk
  go_wp2_with fail
  have HX_2 := Lib.hid (bt HX_1.out HB_2.out)
  have HP_z_2 := Lib.hid (HP_z_1.out.new HB_2.out)
  refine hK.out _ _ (⟨(HA.out.new HX_2.out).cells.1, (HA.out.new HX_2.out).cells.2.1, (HA.out.new HX_2.out).cells.2.2, HX_2.out⟩) (fun hHeld2 => ?_)
  clear hHeld
  have hHeld := hHeld2
  clear hHeld2 hK K hk HB_2 HX_1 HP_z_1
  try simp only [Act.put, List.getElem_toArray, List.getElem_cons_zero, List.getElem_cons_succ, List.setIfInBounds_toArray, List.set_cons_zero, List.set_cons_succ]
  refine wpAnyH_take (i := 10) (v := ?_) rfl (by kernel_rfl) (by kernel_rfl) (by kernel_rfl) (fun _ _ _ h => h) (Or.inl ⟨by kernel_rfl, ?_⟩) (by assumption) ?_
  rotate_left
  · intro w hSw
    (try dsimp only at hSw)
    go_simp
    all_goals (with_reducible rfl)
  try simp only [Act.put, List.getElem_toArray, List.getElem_cons_zero, List.getElem_cons_succ, List.setIfInBounds_toArray, List.set_cons_zero, List.set_cons_succ]
  refine wpAnyH_ready (rs := [11]) (by kernel_rfl) (by simp) ?_
  refine AllReadyH.cons rfl (fun K hK => ?_) AllReadyH.nil
  go_simp
  have HB_3 := Lib.hid ((Below.refl v2.heap.size v2).alloc (Nat.le_refl _) (.cells #[.int .i64 0, .int .i64 0] 44))
  have HP_q_3 := Lib.hid (P2.lit v2 44 (.int .i64 0) (.int .i64 0))
  obtain ⟨v3, hV⟩ : ∃ z, World.alloc v2 (.cells #[.int .i64 0, .int .i64 0] 44) = z := ⟨_, rfl⟩
  obtain ⟨gq, hg⟩ : ∃ z, v2.heap.size = z := ⟨_, rfl⟩
  rw [hV] at HB_3 HP_q_3  ⊢
  rw [hg] at HP_q_3  ⊢
  have HG_q := Lib.hid (show W.heap.size ≤ gq by rw [← hg]; exact HX_2.out.size)
  have HN_z_q := Lib.hid (show (h + 1) ≠ gq by have := HP_z_2.out.lt; rw [hg] at this; omega)
  have HX_3 := Lib.hid (bt HX_2.out HB_3.out)
  have HP_z_3 := Lib.hid (HP_z_2.out.new HB_3.out)
  refine hK.out _ _ (⟨(HA.out.new HX_3.out).cells.1, (HA.out.new HX_3.out).cells.2.1, (HA.out.new HX_3.out).cells.2.2, HX_3.out⟩) (fun hHeld2 => ?_)
  clear hHeld
  have hHeld := hHeld2
  clear hHeld2 hK K hV hg HB_3 HX_2 HP_z_2
  try simp only [Act.put, List.getElem_toArray, List.getElem_cons_zero, List.getElem_cons_succ, List.setIfInBounds_toArray, List.set_cons_zero, List.set_cons_succ]
  refine wpAnyH_ready (rs := [12]) (by kernel_rfl) (by simp) ?_
  refine AllReadyH.cons rfl (fun K hK => ?_) AllReadyH.nil
  obtain ⟨z0, z1⟩ := HP_q_3.out.cells
  have y0 := HP_q_3.out.frozen 0
  have y1 := HP_q_3.out.frozen 1
  have z9 := HP_q_3.out.lt
  go_simp
  obtain ⟨v4, hV⟩ : ∃ z, World.setCell (World.setCell v3 ⟨gq, 0, none⟩ (.int .i64 x)) ⟨gq, 1, none⟩ (.int .i64 y) = z := ⟨_, rfl⟩
  rw [hV]
  have HX_4 := Lib.hid (show Below W.heap.size W v4 by rw [← hV]; exact below_box HX_3.out (HG_q.out) _ _)
  have HP_z_4 := Lib.hid (show P2 44 v4 (h + 1) (.int .i64 0) (.int .i64 0) by rw [← hV]; exact HP_z_3.out.far2 (show (h + 1) ≠ gq from HN_z_q.out) (.int .i64 x) (.int .i64 y))
  have HP_q_4 := Lib.hid (show P2 44 v4 gq (.int .i64 x) (.int .i64 y) by rw [← hV]; exact HP_q_3.out.all (.int .i64 x) (.int .i64 y))
  refine hK.out _ _ (⟨(HA.out.new HX_4.out).cells.1, (HA.out.new HX_4.out).cells.2.1, (HA.out.new HX_4.out).cells.2.2, HX_4.out⟩) (fun hHeld2 => ?_)
  clear hHeld
  have hHeld := hHeld2
  clear hHeld2 hK K hV z9 z0 z1 y0 y1 HX_3 HP_z_3 HP_q_3
  try simp only [Act.put, List.getElem_toArray, List.getElem_cons_zero, List.getElem_cons_succ, List.setIfInBounds_toArray, List.set_cons_zero, List.set_cons_succ]
  refine wpAnyH_done (by kernel_rfl) ?_ _
  clear hHeld
  have HQ2 := Lib.hid HP_q_4.out
  have HZ2 := Lib.hid HP_z_4.out
  have HB2 := Lib.hid (bt HK.out HX_4.out)
  obtain ⟨q0, q1⟩ := HQ2.out.cells
  go_wp2_with fail
  refine (good_any x y v4).mono ?_
  rintro e w3 ⟨rfl, hb3⟩
  have HQ3 := Lib.hid (HQ2.out.new hb3)
  have HZ3 := Lib.hid (HZ2.out.new hb3)
  have HB3 := Lib.hid (bt HB2.out hb3)
  clear hb3 q0 q1
  obtain ⟨q0, q1⟩ := HQ3.out.cells
  obtain ⟨z0, z1⟩ := HZ3.out.cells
  have f0 := HZ3.out.frozen 0
  have f1 := HZ3.out.frozen 1
  rcases vd_cases x y with hv | hv
  · have hk : rrK X Y D := by unfold rrK; rw [HXY.out.1, HXY.out.2]; exact hv
    have HV := Lib.hid (show rrX X Y D = x ∧ rrY X Y D = y ∧ rrC X Y D = 0 from ⟨by unfold rrX; rw [if_pos hk, HXY.out.1], by unfold rrY; rw [if_pos hk, HXY.out.2], hk⟩)
    rw [hv]
    clear hv hk
    go_wp2_with fail
    exact bodyPost_ret (results_cell1 rfl _ _ _ _ _ _ _ rfl (HZ3.out.all (.int .i64 (x)) (.int .i64 (y))) Try.underlying44 rfl G_size) rfl ⟨by rw [HV.out.1, HV.out.2.1, HV.out.2.2]; rfl, below_box HB3.out (by rw [HH.out]; omega) _ _⟩
  · have hk : ¬ rrK X Y D := by unfold rrK; rw [HXY.out.1, HXY.out.2, hv]; decide
    have HV := Lib.hid (show rrX X Y D = 0 ∧ rrY X Y D = 0 ∧ rrC X Y D = 5 from ⟨if_neg hk, if_neg hk, by unfold rrC; rw [HXY.out.1, HXY.out.2]; exact hv⟩)
    rw [hv]
    clear hv hk
    go_wp2_with fail
    exact bodyPost_ret (results_cell1 rfl _ _ _ _ _ _ _ rfl (HZ3.out.all (.int .i64 (0)) (.int .i64 (0))) Try.underlying44 rfl G_size) rfl ⟨by rw [HV.out.1, HV.out.2.1, HV.out.2.2]; rfl, below_box HB3.out (by rw [HH.out]; omega) _ _⟩
  refine AllReadyH.cons rfl (fun K hK => ?_) AllReadyH.nil
  go_simp
  have HB_5 := Lib.hid ((Below.refl v1.heap.size v1).alloc (Nat.le_refl _) (.cells #[.int .i64 0, .int .i64 0] 44))
  have HP_q_5 := Lib.hid (P2.lit v1 44 (.int .i64 0) (.int .i64 0))
  obtain ⟨v5, hV⟩ : ∃ z, World.alloc v1 (.cells #[.int .i64 0, .int .i64 0] 44) = z := ⟨_, rfl⟩
  obtain ⟨gq, hg⟩ : ∃ z, v1.heap.size = z := ⟨_, rfl⟩
  rw [hV] at HB_5 HP_q_5  ⊢
  rw [hg] at HP_q_5  ⊢
  have HG_q := Lib.hid (show W.heap.size ≤ gq by rw [← hg]; exact HX_1.out.size)
  have HN_z_q := Lib.hid (show (h + 1) ≠ gq by have := HP_z_1.out.lt; rw [hg] at this; omega)
  have HX_5 := Lib.hid (bt HX_1.out HB_5.out)
  have HP_z_5 := Lib.hid (HP_z_1.out.new HB_5.out)
  refine hK.out _ _ (⟨(HA.out.new HX_5.out).cells.1, (HA.out.new HX_5.out).cells.2.1, (HA.out.new HX_5.out).cells.2.2, HX_5.out⟩) (fun hHeld2 => ?_)
  clear hHeld
  have hHeld := hHeld2
  clear hHeld2 hK K hV hg HB_5 HX_1 HP_z_1
  try simp only [Act.put, List.getElem_toArray, List.getElem_cons_zero, List.getElem_cons_succ, List.setIfInBounds_toArray, List.set_cons_zero, List.set_cons_succ]
  refine wpAnyH_ready (rs := [9]) (by kernel_rfl) (by simp) ?_
  refine AllReadyH.cons rfl (fun K hK => ?_) AllReadyH.nil
  go_simp
  go_at_call_of 49 (Value.int .i64 Y)
  refine (near_any Y D v5 HL.out.1 HL.out.2.2).mono ?_
  rw [HXY.out.2]
  rintro e v6 ⟨rfl, hw⟩
  have hk : Below v5.heap.size v5 v6 := by rw [← hw]; exact Below.refl _ _
  clear hw
  have HB_6 := Lib.hid hk
  go_wp2_with fail
  have HX_6 := Lib.hid (bt HX_5.out HB_6.out)
  have HP_z_6 := Lib.hid (HP_z_5.out.new HB_6.out)
  have HP_q_6 := Lib.hid (HP_q_5.out.new HB_6.out)
  refine hK.out _ _ (⟨(HA.out.new HX_6.out).cells.1, (HA.out.new HX_6.out).cells.2.1, (HA.out.new HX_6.out).cells.2.2, HX_6.out⟩) (fun hHeld2 => ?_)
  clear hHeld
  have hHeld := hHeld2
  clear hHeld2 hK K hk HB_6 HX_5 HP_z_5 HP_q_5
  try simp only [Act.put, List.getElem_toArray, List.getElem_cons_zero, List.getElem_cons_succ, List.setIfInBounds_toArray, List.set_cons_zero, List.set_cons_succ]
  refine wpAnyH_take (i := 10) (v := ?_) rfl (by kernel_rfl) (by kernel_rfl) (by kernel_rfl) (fun _ _ _ h => h) (Or.inl ⟨by kernel_rfl, ?_⟩) (by assumption) ?_
  rotate_left
  · intro w hSw
    (try dsimp only at hSw)
    go_simp
    all_goals (with_reducible rfl)
  try simp only [Act.put, List.getElem_toArray, List.getElem_cons_zero, List.getElem_cons_succ, List.setIfInBounds_toArray, List.set_cons_zero, List.set_cons_succ]
  refine wpAnyH_ready (rs := [12]) (by kernel_rfl) (by simp) ?_
  refine AllReadyH.cons rfl (fun K hK => ?_) AllReadyH.nil
  obtain ⟨z0, z1⟩ := HP_q_6.out.cells
  have y0 := HP_q_6.out.frozen 0
  have y1 := HP_q_6.out.frozen 1
  have z9 := HP_q_6.out.lt
  go_simp
  obtain ⟨v7, hV⟩ : ∃ z, World.setCell (World.setCell v6 ⟨gq, 0, none⟩ (.int .i64 x)) ⟨gq, 1, none⟩ (.int .i64 y) = z := ⟨_, rfl⟩
  rw [hV]
  have HX_7 := Lib.hid (show Below W.heap.size W v7 by rw [← hV]; exact below_box HX_6.out (HG_q.out) _ _)
  have HP_z_7 := Lib.hid (show P2 44 v7 (h + 1) (.int .i64 0) (.int .i64 0) by rw [← hV]; exact HP_z_6.out.far2 (show (h + 1) ≠ gq from HN_z_q.out) (.int .i64 x) (.int .i64 y))
  have HP_q_7 := Lib.hid (show P2 44 v7 gq (.int .i64 x) (.int .i64 y) by rw [← hV]; exact HP_q_6.out.all (.int .i64 x) (.int .i64 y))
  refine hK.out _ _ (⟨(HA.out.new HX_7.out).cells.1, (HA.out.new HX_7.out).cells.2.1, (HA.out.new HX_7.out).cells.2.2, HX_7.out⟩) (fun hHeld2 => ?_)
  clear hHeld
  have hHeld := hHeld2
  clear hHeld2 hK K hV z9 z0 z1 y0 y1 HX_6 HP_z_6 HP_q_6
  try simp only [Act.put, List.getElem_toArray, List.getElem_cons_zero, List.getElem_cons_succ, List.setIfInBounds_toArray, List.set_cons_zero, List.set_cons_succ]
  refine wpAnyH_done (by kernel_rfl) ?_ _
  clear hHeld
  have HQ2 := Lib.hid HP_q_7.out
  have HZ2 := Lib.hid HP_z_7.out
  have HB2 := Lib.hid (bt HK.out HX_7.out)
  obtain ⟨q0, q1⟩ := HQ2.out.cells
  go_wp2_with fail
  refine (good_any x y v7).mono ?_
  rintro e w3 ⟨rfl, hb3⟩
  have HQ3 := Lib.hid (HQ2.out.new hb3)
  have HZ3 := Lib.hid (HZ2.out.new hb3)
  have HB3 := Lib.hid (bt HB2.out hb3)
  clear hb3 q0 q1
  obtain ⟨q0, q1⟩ := HQ3.out.cells
  obtain ⟨z0, z1⟩ := HZ3.out.cells
  have f0 := HZ3.out.frozen 0
  have f1 := HZ3.out.frozen 1
  rcases vd_cases x y with hv | hv
  · have hk : rrK X Y D := by unfold rrK; rw [HXY.out.1, HXY.out.2]; exact hv
    have HV := Lib.hid (show rrX X Y D = x ∧ rrY X Y D = y ∧ rrC X Y D = 0 from ⟨by unfold rrX; rw [if_pos hk, HXY.out.1], by unfold rrY; rw [if_pos hk, HXY.out.2], hk⟩)
    rw [hv]
    clear hv hk
    go_wp2_with fail
    exact bodyPost_ret (results_cell1 rfl _ _ _ _ _ _ _ rfl (HZ3.out.all (.int .i64 (x)) (.int .i64 (y))) Try.underlying44 rfl G_size) rfl ⟨by rw [HV.out.1, HV.out.2.1, HV.out.2.2]; rfl, below_box HB3.out (by rw [HH.out]; omega) _ _⟩
  · have hk : ¬ rrK X Y D := by unfold rrK; rw [HXY.out.1, HXY.out.2, hv]; decide
    have HV := Lib.hid (show rrX X Y D = 0 ∧ rrY X Y D = 0 ∧ rrC X Y D = 5 from ⟨if_neg hk, if_neg hk, by unfold rrC; rw [HXY.out.1, HXY.out.2]; exact hv⟩)
    rw [hv]
    clear hv hk
    go_wp2_with fail
    exact bodyPost_ret (results_cell1 rfl _ _ _ _ _ _ _ rfl (HZ3.out.all (.int .i64 (0)) (.int .i64 (0))) Try.underlying44 rfl G_size) rfl ⟨by rw [HV.out.1, HV.out.2.1, HV.out.2.2]; rfl, below_box HB3.out (by rw [HH.out]; omega) _ _⟩
  refine AllReadyH.cons rfl (fun K hK => ?_) AllReadyH.nil
  go_simp
  have HB_8 := Lib.hid ((Below.refl v0.heap.size v0).alloc (Nat.le_refl _) (.cells #[.int .i64 0, .int .i64 0] 44))
  have HP_q_8 := Lib.hid (P2.lit v0 44 (.int .i64 0) (.int .i64 0))
  obtain ⟨v8, hV⟩ : ∃ z, World.alloc v0 (.cells #[.int .i64 0, .int .i64 0] 44) = z := ⟨_, rfl⟩
  obtain ⟨gq, hg⟩ : ∃ z, v0.heap.size = z := ⟨_, rfl⟩
  rw [hV] at HB_8 HP_q_8  ⊢
  rw [hg] at HP_q_8  ⊢
  have HG_q := Lib.hid (show W.heap.size ≤ gq by rw [← hg]; exact HX_0.out.size)
  have HN_z_q := Lib.hid (show (h + 1) ≠ gq by have := HP_z_0.out.lt; rw [hg] at this; omega)
  have HX_8 := Lib.hid (bt HX_0.out HB_8.out)
  have HP_z_8 := Lib.hid (HP_z_0.out.new HB_8.out)
  refine hK.out _ _ (⟨(HA.out.new HX_8.out).cells.1, (HA.out.new HX_8.out).cells.2.1, (HA.out.new HX_8.out).cells.2.2, HX_8.out⟩) (fun hHeld2 => ?_)
  clear hHeld
  have hHeld := hHeld2
  clear hHeld2 hK K hV hg HB_8 HX_0 HP_z_0
  try simp only [Act.put, List.getElem_toArray, List.getElem_cons_zero, List.getElem_cons_succ, List.setIfInBounds_toArray, List.set_cons_zero, List.set_cons_succ]
  refine wpAnyH_ready (rs := [4]) (by kernel_rfl) (by simp) ?_
  refine AllReadyH.cons rfl (fun K hK => ?_) AllReadyH.nil
  go_simp
  go_at_call_of 49 (Value.int .i64 X)
  refine (near_any X D v8 HL.out.1 HL.out.2.1).mono ?_
  rw [HXY.out.1]
  rintro e v9 ⟨rfl, hw⟩
  have hk : Below v8.heap.size v8 v9 := by rw [← hw]; exact Below.refl _ _
  clear hw
  have HB_9 := Lib.hid hk
  go_wp2_with fail
  have HX_9 := Lib.hid (bt HX_8.out HB_9.out)
  have HP_z_9 := Lib.hid (HP_z_8.out.new HB_9.out)
  have HP_q_9 := Lib.hid (HP_q_8.out.new HB_9.out)
  refine hK.out _ _ (⟨(HA.out.new HX_9.out).cells.1, (HA.out.new HX_9.out).cells.2.1, (HA.out.new HX_9.out).cells.2.2, HX_9.out⟩) (fun hHeld2 => ?_)
  clear hHeld
  have hHeld := hHeld2
  clear hHeld2 hK K hk HB_9 HX_8 HP_z_8 HP_q_8
  try simp only [Act.put, List.getElem_toArray, List.getElem_cons_zero, List.getElem_cons_succ, List.setIfInBounds_toArray, List.set_cons_zero, List.set_cons_succ]
  refine wpAnyH_ready (rs := [9]) (by kernel_rfl) (by simp) ?_
  refine AllReadyH.cons rfl (fun K hK => ?_) AllReadyH.nil
  go_simp
  go_at_call_of 49 (Value.int .i64 Y)
  refine (near_any Y D v9 HL.out.1 HL.out.2.2).mono ?_
  rw [HXY.out.2]
  rintro e v10 ⟨rfl, hw⟩
  have hk : Below v9.heap.size v9 v10 := by rw [← hw]; exact Below.refl _ _
  clear hw
  have HB_10 := Lib.hid hk
  go_wp2_with fail
  have HX_10 := Lib.hid (bt HX_9.out HB_10.out)
  have HP_z_10 := Lib.hid (HP_z_9.out.new HB_10.out)
  have HP_q_10 := Lib.hid (HP_q_9.out.new HB_10.out)
  refine hK.out _ _ (⟨(HA.out.new HX_10.out).cells.1, (HA.out.new HX_10.out).cells.2.1, (HA.out.new HX_10.out).cells.2.2, HX_10.out⟩) (fun hHeld2 => ?_)
  clear hHeld
  have hHeld := hHeld2
  clear hHeld2 hK K hk HB_10 HX_9 HP_z_9 HP_q_9
  try simp only [Act.put, List.getElem_toArray, List.getElem_cons_zero, List.getElem_cons_succ, List.setIfInBounds_toArray, List.set_cons_zero, List.set_cons_succ]
  refine wpAnyH_take (i := 10) (v := ?_) rfl (by kernel_rfl) (by kernel_rfl) (by kernel_rfl) (fun _ _ _ h => h) (Or.inl ⟨by kernel_rfl, ?_⟩) (by assumption) ?_
  rotate_left
  · intro w hSw
    (try dsimp only at hSw)
    go_simp
    all_goals (with_reducible rfl)
  try simp only [Act.put, List.getElem_toArray, List.getElem_cons_zero, List.getElem_cons_succ, List.setIfInBounds_toArray, List.set_cons_zero, List.set_cons_succ]
  refine wpAnyH_ready (rs := [12]) (by kernel_rfl) (by simp) ?_
  refine AllReadyH.cons rfl (fun K hK => ?_) AllReadyH.nil
  obtain ⟨z0, z1⟩ := HP_q_10.out.cells
  have y0 := HP_q_10.out.frozen 0
  have y1 := HP_q_10.out.frozen 1
  have z9 := HP_q_10.out.lt
  go_simp
  obtain ⟨v11, hV⟩ : ∃ z, World.setCell (World.setCell v10 ⟨gq, 0, none⟩ (.int .i64 x)) ⟨gq, 1, none⟩ (.int .i64 y) = z := ⟨_, rfl⟩
  rw [hV]
  have HX_11 := Lib.hid (show Below W.heap.size W v11 by rw [← hV]; exact below_box HX_10.out (HG_q.out) _ _)
  have HP_z_11 := Lib.hid (show P2 44 v11 (h + 1) (.int .i64 0) (.int .i64 0) by rw [← hV]; exact HP_z_10.out.far2 (show (h + 1) ≠ gq from HN_z_q.out) (.int .i64 x) (.int .i64 y))
  have HP_q_11 := Lib.hid (show P2 44 v11 gq (.int .i64 x) (.int .i64 y) by rw [← hV]; exact HP_q_10.out.all (.int .i64 x) (.int .i64 y))
  refine hK.out _ _ (⟨(HA.out.new HX_11.out).cells.1, (HA.out.new HX_11.out).cells.2.1, (HA.out.new HX_11.out).cells.2.2, HX_11.out⟩) (fun hHeld2 => ?_)
  clear hHeld
  have hHeld := hHeld2
  clear hHeld2 hK K hV z9 z0 z1 y0 y1 HX_10 HP_z_10 HP_q_10
  try simp only [Act.put, List.getElem_toArray, List.getElem_cons_zero, List.getElem_cons_succ, List.setIfInBounds_toArray, List.set_cons_zero, List.set_cons_succ]
  refine wpAnyH_done (by kernel_rfl) ?_ _
  clear hHeld
  have HQ2 := Lib.hid HP_q_11.out
  have HZ2 := Lib.hid HP_z_11.out
  have HB2 := Lib.hid (bt HK.out HX_11.out)
  obtain ⟨q0, q1⟩ := HQ2.out.cells
  go_wp2_with fail
  refine (good_any x y v11).mono ?_
  rintro e w3 ⟨rfl, hb3⟩
  have HQ3 := Lib.hid (HQ2.out.new hb3)
  have HZ3 := Lib.hid (HZ2.out.new hb3)
  have HB3 := Lib.hid (bt HB2.out hb3)
  clear hb3 q0 q1
  obtain ⟨q0, q1⟩ := HQ3.out.cells
  obtain ⟨z0, z1⟩ := HZ3.out.cells
  have f0 := HZ3.out.frozen 0
  have f1 := HZ3.out.frozen 1
  rcases vd_cases x y with hv | hv
  · have hk : rrK X Y D := by unfold rrK; rw [HXY.out.1, HXY.out.2]; exact hv
    have HV := Lib.hid (show rrX X Y D = x ∧ rrY X Y D = y ∧ rrC X Y D = 0 from ⟨by unfold rrX; rw [if_pos hk, HXY.out.1], by unfold rrY; rw [if_pos hk, HXY.out.2], hk⟩)
    rw [hv]
    clear hv hk
    go_wp2_with fail
    exact bodyPost_ret (results_cell1 rfl _ _ _ _ _ _ _ rfl (HZ3.out.all (.int .i64 (x)) (.int .i64 (y))) Try.underlying44 rfl G_size) rfl ⟨by rw [HV.out.1, HV.out.2.1, HV.out.2.2]; rfl, below_box HB3.out (by rw [HH.out]; omega) _ _⟩
  · have hk : ¬ rrK X Y D := by unfold rrK; rw [HXY.out.1, HXY.out.2, hv]; decide
    have HV := Lib.hid (show rrX X Y D = 0 ∧ rrY X Y D = 0 ∧ rrC X Y D = 5 from ⟨if_neg hk, if_neg hk, by unfold rrC; rw [HXY.out.1, HXY.out.2]; exact hv⟩)
    rw [hv]
    clear hv hk
    go_wp2_with fail
    exact bodyPost_ret (results_cell1 rfl _ _ _ _ _ _ _ rfl (HZ3.out.all (.int .i64 (0)) (.int .i64 (0))) Try.underlying44 rfl G_size) rfl ⟨by rw [HV.out.1, HV.out.2.1, HV.out.2.2]; rfl, below_box HB3.out (by rw [HH.out]; omega) _ _⟩
end Go.Proofs.Ytfmccalkfagafaa
