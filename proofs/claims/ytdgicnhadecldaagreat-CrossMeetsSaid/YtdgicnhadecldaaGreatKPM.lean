/- Contracts of the program's points: Mid's closure. Conditions: as each statement has them. -/
import Derived.Test.YtdgicnhadecldaaGreatKPF
namespace Go.Proofs.YtdgicnhadecldaaGreat
set_option maxRecDepth 100000
set_option maxHeartbeats 12800000
open Go.RowKit
attribute [local go_sem ↓] Go.wp_at_zero Go.wp_at_succ
section
variable {t:TypeId} {w w':World} {b:Nat} {x0 x1 x2 x3 x4 x5 x6 x7 x8 x9 x10 x11 x12 x13 x14 x15:Value}
end
end Go.Proofs.YtdgicnhadecldaaGreat
