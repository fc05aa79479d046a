/- Contracts of the program's fractions: compareByParts. Conditions: as each statement has them. -/
import Derived.Test.YtdamadkhbeonaaaFY
import Derived.Deep.RegionHeld3
import Derived.Deep.LoopGhost
namespace Go.Proofs.Ytdamadkhbeonaaa
open Go.RowKit
attribute [local go_sem ↓] Go.wp_at_zero Go.wp_at_succ
theorem cmpI_cases (a b : Int) : (a < b ∧ cmpI a b = -1) ∨ (a = b ∧ cmpI a b = 0) ∨ (b < a ∧ cmpI a b = 1) := by
 rcases Int.lt_trichotomy a b with h | h | h
 ·exact .inl ⟨h, cmpI_lt' h⟩
 ·exact .inr (.inl ⟨h, cmpI_same h⟩)
 ·exact .inr (.inr ⟨h, cmpI_gt' h⟩)
end Go.Proofs.Ytdamadkhbeonaaa
