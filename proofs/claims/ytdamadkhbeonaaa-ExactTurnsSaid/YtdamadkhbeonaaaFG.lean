/- Contracts of the program's fractions: Add. Conditions: as each statement has them. -/
import Derived.Test.YtdamadkhbeonaaaFY
import Derived.Test.YtdamadkhbeonaaaFD
import Derived.Deep.DeepCutAuto
namespace Go.Proofs.Ytdamadkhbeonaaa
open Go.RowKit
attribute [local go_sem ↓] Go.wp_at_zero Go.wp_at_succ
section
variable (t : TypeId) (w : World) (a0 a1 a2 a3 b0 b1 b2 b3 z0 z1 z2 z3 : Value)
end
def adG (q s : Int) : Int := ((Nat.gcd q.natAbs s.natAbs : Nat) : Int)
def adN (p q r s : Int) : Int := p * (s / adG q s) + r * (q / adG q s)
def adD (q s : Int) : Int := q / adG q s * s
/-- Everything on the way is in range. -/
def adK (p q r s : Int) : Prop := (p * (s / adG q s)).natAbs < lim ∧ (r * (q / adG q s)).natAbs < lim ∧ (adN p q r s).natAbs < lim ∧ (adD q s).natAbs < lim
instance (p q r s : Int) : Decidable (adK p q r s) := by unfold adK; infer_instance
def adH (p q r s : Int) : Int := ((Nat.gcd (adN p q r s).natAbs (adG q s).natAbs : Nat) : Int)
def adP (p q r s : Int) : Int := if adK p q r s then adN p q r s / adH p q r s else 0
def adQ (p q r s : Int) : Int := if adK p q r s then adD q s / adH p q r s else 1
def adC (p q r s : Int) : Int := if adK p q r s then 0 else 4
end Go.Proofs.Ytdamadkhbeonaaa
