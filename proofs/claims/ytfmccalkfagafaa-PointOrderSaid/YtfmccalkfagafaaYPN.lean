/- Contracts of the program's points: ValidBox; the reference's Good. Conditions: as each statement has them. -/
import Derived.Test.YtfmccalkfagafaaYPK
namespace Go.Proofs.Ytfmccalkfagafaa
open Go.RowKit
attribute [local go_sem ↓] Go.wp_at_zero Go.wp_at_succ
end Go.Proofs.Ytfmccalkfagafaa
