/- Contracts: the law's points. Conditions: as each statement has them. -/
import Derived.Test.YtdgicnhadecldaaGreatKQL
import Derived.Test.YtdgicnhadecldaaGreatKEA
import Derived.Test.YtdgicnhadecldaaGreatKEO
namespace Go.Proofs.YtdgicnhadecldaaGreat
set_option maxRecDepth 100000
set_option maxHeartbeats 12800000
open Go.RowKit
attribute [local go_sem ↓] Go.wp_at_zero Go.wp_at_succ
set_option linter.unusedVariables false
set_option linter.unusedSimpArgs false
end Go.Proofs.YtdgicnhadecldaaGreat
