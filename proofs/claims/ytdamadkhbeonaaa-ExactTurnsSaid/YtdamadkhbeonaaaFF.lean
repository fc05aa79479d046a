/- Contracts of the program's fractions: Compare. Conditions: as each statement has them. -/
import Derived.Test.YtdamadkhbeonaaaFC
import Derived.Test.YtdamadkhbeonaaaFE
import Derived.Deep.DeepCutAuto
namespace Go.Proofs.Ytdamadkhbeonaaa
open Go.RowKit
attribute [local go_sem ↓] Go.wp_at_zero Go.wp_at_succ
end Go.Proofs.Ytdamadkhbeonaaa
