/- Contracts of the program's fractions: Of, Sub, Div. Conditions: as each statement has them. -/
import Derived.Test.YtdamadkhbeonaaaFH
import Derived.Deep.DeepCutAuto
namespace Go.Proofs.Ytdamadkhbeonaaa
open Go.RowKit
attribute [local go_sem ↓] Go.wp_at_zero Go.wp_at_succ
def dvC (p q r s : Int) : Int := if r = 0 then 1 else muC p q (mkP s r) (mkQ s r)
end Go.Proofs.Ytdamadkhbeonaaa
