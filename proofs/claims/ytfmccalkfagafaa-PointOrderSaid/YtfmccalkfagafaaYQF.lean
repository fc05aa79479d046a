/- Contracts of the reference's points: sign, Compare, In, Meets, floor, nearest, Whole, Round. Conditions: as each statement has them. -/
import Derived.Test.YtfmccalkfagafaaYQE
namespace Go.Proofs.Ytfmccalkfagafaa
open Go.RowKit
attribute [local go_sem ↓] Go.wp_at_zero Go.wp_at_succ
theorem mul_in {a b : Int} {m n : Nat} (ha : a.natAbs ≤ m) (hb : b.natAbs ≤ n) : (a * b).natAbs ≤ m * n := by rw [Int.natAbs_mul]; exact Nat.mul_le_mul ha hb
/-- The order of two points of the reference. -/
def rcV (X Y D X' Y' D' : Int) : Int := if cmpI (X * D') (X' * D) = 0 then cmpI (Y * D') (Y' * D) else cmpI (X * D') (X' * D)
/-- Small enough. -/
def Sb (X Y D : Int) : Prop := (0 < D ∧ D ≤ 12) ∧ (-400 ≤ X ∧ X ≤ 400) ∧ (-400 ≤ Y ∧ Y ≤ 400)
theorem Sm.sb {X Y D : Int} (h : Sm X Y D) : Sb X Y D := ⟨h.1, h.2.1, h.2.2.1⟩
/-- The nearest integer. -/
def nrV (n d : Int) : Int := -((d - 2 * n) / (2 * d))
/-- What Whole returns. -/
def rwK (X Y D : Int) : Prop := D = 1 ∧ vdC X Y = 0
instance (X Y D : Int) : Decidable (rwK X Y D) := by unfold rwK; infer_instance
def rrK (X Y D : Int) : Prop := vdC (nrV X D) (nrV Y D) = 0
instance (X Y D : Int) : Decidable (rrK X Y D) := by unfold rrK; infer_instance
def rrX (X Y D : Int) : Int := if rrK X Y D then nrV X D else 0
def rrY (X Y D : Int) : Int := if rrK X Y D then nrV Y D else 0
def rrC (X Y D : Int) : Int := vdC (nrV X D) (nrV Y D)
end Go.Proofs.Ytfmccalkfagafaa
