/- Contracts of package cross: Normal, Valid. Conditions: as each statement has them. -/
import Derived.Test.YtdgicnhadecldaaGreatKAE
import Derived.Test.YtdgicnhadecldaaGreatKFI
namespace Go.Proofs.YtdgicnhadecldaaGreat
open Go.RowKit
attribute [local go_sem ↓] Go.wp_at_zero Go.wp_at_succ
set_option linter.unusedVariables false
set_option linter.unusedSimpArgs false
theorem int_fr {x:Int} (h:(Lit.int .i64 x).wf=true):Fr x 1:=⟨⟨by decide,Nat.gcd_one_right _⟩,i64_lim h,i64_lim (x:=1) (by decide)⟩
end Go.Proofs.YtdgicnhadecldaaGreat
