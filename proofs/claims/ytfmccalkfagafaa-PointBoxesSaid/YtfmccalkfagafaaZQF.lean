/- Contracts of the reference's points: sign, Compare, In, Meets, floor, nearest, Whole, Round. Conditions: as each statement has them. -/
import Derived.Test.YtfmccalkfagafaaZQE
namespace Go.Proofs.Ytfmccalkfagafaa
open Go.RowKit
attribute [local go_sem ↓] Go.wp_at_zero Go.wp_at_succ
theorem mul_in {a b : Int} {m n : Nat} (ha : a.natAbs ≤ m) (hb : b.natAbs ≤ n) : (a * b).natAbs ≤ m * n := by rw [Int.natAbs_mul]; exact Nat.mul_le_mul ha hb
/-- Small enough. -/
def Sb (X Y D : Int) : Prop := (0 < D ∧ D ≤ 12) ∧ (-400 ≤ X ∧ X ≤ 400) ∧ (-400 ≤ Y ∧ Y ≤ 400)
theorem Sm.sb {X Y D : Int} (h : Sm X Y D) : Sb X Y D := ⟨h.1, h.2.1, h.2.2.1⟩
/-- A point of the reference lies in a box. -/
def rinV (a b x y X Y D : Int) : Bool := decide (((a * D ≤ X ∧ X ≤ x * D) ∧ b * D ≤ Y) ∧ Y ≤ y * D)
set_option maxRecDepth 100000 in
set_option maxHeartbeats 6400000 in
theorem rin_any (a b x y X Y D : Int) (w : World) (h : Sb X Y D) (ha : Co a) (hb : Co b) (hx : Co x) (hy : Co y) :
    Calls Try.prog 30 #[.agg #[.int .i64 a, .int .i64 b, .int .i64 x, .int .i64 y], .agg #[.int .i64 X, .int .i64 Y, .int .i64 D]] w fun e w' => e = .returned (.bool (rinV a b x y X Y D)) ∧ Below w.heap.size w w' := by
  obtain ⟨⟨d0, d1⟩, ⟨x0, x1⟩, y0, y1⟩ := h
  obtain ⟨a0, a1⟩ := ha
  obtain ⟨b0, b1⟩ := hb
  obtain ⟨x0', x1'⟩ := hx
  obtain ⟨y0', y1'⟩ := hy
  have m1 := mul_in (show a.natAbs ≤ 32 by omega) (show D.natAbs ≤ 12 by omega)
  have m2 := mul_in (show b.natAbs ≤ 32 by omega) (show D.natAbs ≤ 12 by omega)
  have m3 := mul_in (show x.natAbs ≤ 32 by omega) (show D.natAbs ≤ 12 by omega)
  have m4 := mul_in (show y.natAbs ≤ 32 by omega) (show D.natAbs ≤ 12 by omega)
  have e1 : IntKind.i64.wrap (a * D) = a * D := IntWalk.i64_in _ (by omega)
  have e2 : IntKind.i64.wrap (b * D) = b * D := IntWalk.i64_in _ (by omega)
  have e3 : IntKind.i64.wrap (x * D) = x * D := IntWalk.i64_in _ (by omega)
  have e4 : IntKind.i64.wrap (y * D) = y * D := IntWalk.i64_in _ (by omega)
  clear m1 m2 m3 m4 d0 d1 x0 x1 y0 y1 a0 a1 b0 b1 x0' x1' y0' y1'
  obtain ⟨W, hW⟩ : ∃ W, (w.alloc (.cells #[.int .i64 a, .int .i64 b, .int .i64 x, .int .i64 y] 64)).alloc (.cells #[.int .i64 X, .int .i64 Y, .int .i64 D] 23) = W := ⟨_, rfl⟩
  have HK := Lib.hid (show Below w.heap.size w W by rw [← hW]; exact ((Below.refl _ w).alloc (Nat.le_refl _) _).alloc (by simp) _)
  have HA := Lib.hid (show P4 64 W w.heap.size (.int .i64 a) (.int .i64 b) (.int .i64 x) (.int .i64 y) by rw [← hW]; exact (P4.lit w _ _ _ _ _ ).new ((Below.refl _ _).alloc (Nat.le_refl _) _))
  have HB := Lib.hid (show P3 23 W (w.heap.size + 1) (.int .i64 X) (.int .i64 Y) (.int .i64 D) by
    rw [← hW]
    have h0 := P3.lit (w.alloc (.cells #[.int .i64 a, .int .i64 b, .int .i64 x, .int .i64 y] 64)) 23 (.int .i64 X) (.int .i64 Y) (.int .i64 D)
    rw [World.size_alloc] at h0
    exact h0)
  obtain ⟨q0, q1, q2, q3⟩ := HA.out.cells
  obtain ⟨r0, r1, r2⟩ := HB.out.cells
  go_enter Try.func30, Try.ntmps30
  by_cases h0 : a * D ≤ X
  · skip
    by_cases h1 : X ≤ x * D
    · skip
      by_cases h2 : b * D ≤ Y
      · skip
        by_cases h3 : Y ≤ y * D
        · have HV := Lib.hid (show rinV a b x y X Y D = true from decide_eq_true ⟨⟨⟨h0, h1⟩, h2⟩, h3⟩)
          go_wp2_with fail
          go_ret
          exact ⟨by rw [HV.out]; rfl, HK.out⟩
        · have HV := Lib.hid (show rinV a b x y X Y D = false from decide_eq_false (fun h => h3 h.2))
          go_wp2_with fail
          go_ret
          exact ⟨by rw [HV.out]; rfl, HK.out⟩
      · have HV := Lib.hid (show rinV a b x y X Y D = false from decide_eq_false (fun h => h2 h.1.2))
        go_wp2_with fail
        go_ret
        exact ⟨by rw [HV.out]; rfl, HK.out⟩
    · have HV := Lib.hid (show rinV a b x y X Y D = false from decide_eq_false (fun h => h1 h.1.1.2))
      go_wp2_with fail
      go_ret
      exact ⟨by rw [HV.out]; rfl, HK.out⟩
  · have HV := Lib.hid (show rinV a b x y X Y D = false from decide_eq_false (fun h => h0 h.1.1.1))
    go_wp2_with fail
    go_ret
    exact ⟨by rw [HV.out]; rfl, HK.out⟩
set_option maxRecDepth 100000 in
set_option maxHeartbeats 6400000 in
theorem rmeets_any (a b x y a' b' x' y' : Int) (w : World) :
    Calls Try.prog 33 #[.agg #[.int .i64 a, .int .i64 b, .int .i64 x, .int .i64 y], .agg #[.int .i64 a', .int .i64 b', .int .i64 x', .int .i64 y']] w fun e w' => e = .returned (.bool (mtV a b x y a' b' x' y')) ∧ Below w.heap.size w w' := by
  obtain ⟨W, hW⟩ : ∃ W, (w.alloc (.cells #[.int .i64 a, .int .i64 b, .int .i64 x, .int .i64 y] 64)).alloc (.cells #[.int .i64 a', .int .i64 b', .int .i64 x', .int .i64 y'] 64) = W := ⟨_, rfl⟩
  have HK := Lib.hid (show Below w.heap.size w W by rw [← hW]; exact ((Below.refl _ w).alloc (Nat.le_refl _) _).alloc (by simp) _)
  have HA := Lib.hid (show P4 64 W w.heap.size (.int .i64 a) (.int .i64 b) (.int .i64 x) (.int .i64 y) by rw [← hW]; exact (P4.lit w _ _ _ _ _ ).new ((Below.refl _ _).alloc (Nat.le_refl _) _))
  have HB := Lib.hid (show P4 64 W (w.heap.size + 1) (.int .i64 a') (.int .i64 b') (.int .i64 x') (.int .i64 y') by
    rw [← hW]
    have h0 := P4.lit (w.alloc (.cells #[.int .i64 a, .int .i64 b, .int .i64 x, .int .i64 y] 64)) 64 (.int .i64 a') (.int .i64 b') (.int .i64 x') (.int .i64 y')
    rw [World.size_alloc] at h0
    exact h0)
  obtain ⟨q0, q1, q2, q3⟩ := HA.out.cells
  obtain ⟨r0, r1, r2, r3⟩ := HB.out.cells
  go_enter Try.func33, Try.ntmps33
  go_wp2_with fail
  all_goals
    go_ret
    refine ⟨?_, HK.out⟩
    first
      | exact congrArg (fun z => Ending.returned (.bool z)) (show false = mtV a b x y a' b' x' y' from (decide_eq_false (by omega)).symm)
      | exact congrArg (fun z => Ending.returned (.bool z)) (show true = mtV a b x y a' b' x' y' from (decide_eq_true (by omega)).symm)
      | (refine congrArg (fun z => Ending.returned (.bool z)) ?_; unfold mtV; exact decide_eq_decide.2 (by omega))
/-- The nearest integer. -/
def nrV (n d : Int) : Int := -((d - 2 * n) / (2 * d))
/-- What Whole returns. -/
def rwK (X Y D : Int) : Prop := D = 1 ∧ vdC X Y = 0
instance (X Y D : Int) : Decidable (rwK X Y D) := by unfold rwK; infer_instance
def rrK (X Y D : Int) : Prop := vdC (nrV X D) (nrV Y D) = 0
instance (X Y D : Int) : Decidable (rrK X Y D) := by unfold rrK; infer_instance
end Go.Proofs.Ytfmccalkfagafaa
