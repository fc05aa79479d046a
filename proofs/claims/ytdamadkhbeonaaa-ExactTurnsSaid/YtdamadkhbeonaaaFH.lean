/- Contracts of the program's fractions: Mul. Conditions: as each statement has them. -/
import Derived.Test.YtdamadkhbeonaaaFG
import Derived.Deep.DeepCutAuto
namespace Go.Proofs.Ytdamadkhbeonaaa
open Go.RowKit
attribute [local go_sem ↓] Go.wp_at_zero Go.wp_at_succ
def muA (x y : Int) : Int := ((Nat.gcd x.natAbs y.natAbs : Nat) : Int)
def muN (p q r s : Int) : Int := p / muA p s * (r / muA r q)
def muD (p q r s : Int) : Int := q / muA r q * (s / muA p s)
def muK (p q r s : Int) : Prop := (muN p q r s).natAbs < lim ∧ (muD p q r s).natAbs < lim
instance (p q r s : Int) : Decidable (muK p q r s) := by unfold muK; infer_instance
def muC (p q r s : Int) : Int := if muK p q r s then 0 else 4
end Go.Proofs.Ytdamadkhbeonaaa
