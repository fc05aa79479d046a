/- Small helpers of the fractions: codes, and states of a region by name. Conditions: as each statement has them. -/
import Derived.Test.YtdamadkhbeonaaaFB
namespace Go.Proofs.Ytdamadkhbeonaaa
open Go.RowKit
attribute [local go_sem ↓] Go.wp_at_zero Go.wp_at_succ
theorem wpAnyH_name {P : Program} {md : Region.Mode} {ops : Array Oper} {Q : Exit → Act → World → Prop} {S : World → Prop} {fuel : Nat} {L : Array Bool} {a : Act} {w : World} (h : ∀ F : Nat → Array Bool → Act → World → Prop, F = wpAnyH P md ops Q S → ∀ a0, a0 = a → ∀ L0, L0 = L → F fuel L0 a0 w) : wpAnyH P md ops Q S fuel L a w := h _ rfl _ rfl _ rfl
theorem wpAnyH_cast {P : Program} {md : Region.Mode} {ops : Array Oper} {Q : Exit → Act → World → Prop} {S : World → Prop} {fuel : Nat} {L L' : Array Bool} {a : Act} {w : World} (e : L = L') (h : wpAnyH P md ops Q S fuel L' a w) : wpAnyH P md ops Q S fuel L a w := e ▸ h
theorem cmpI_lt' {a b : Int} (h : a < b) : cmpI a b = -1 := cmpI_less h
theorem cmpI_gt' {a b : Int} (h : b < a) : cmpI a b = 1 := by unfold cmpI; rw [if_neg (by omega), if_pos h]
end Go.Proofs.Ytdamadkhbeonaaa
