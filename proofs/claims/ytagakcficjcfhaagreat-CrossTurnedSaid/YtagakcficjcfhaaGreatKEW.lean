/- Contracts: the law's points. Conditions: as each statement has them. -/
import Derived.Test.YtagakcficjcfhaaGreatKQL
import Derived.Test.YtagakcficjcfhaaGreatKEA
import Derived.Test.YtagakcficjcfhaaGreatKEO
namespace Go.Proofs.YtagakcficjcfhaaGreat
set_option maxRecDepth 100000
set_option maxHeartbeats 12800000
open Go.RowKit
attribute [local go_sem ↓] Go.wp_at_zero Go.wp_at_succ
set_option linter.unusedVariables false
set_option linter.unusedSimpArgs false
theorem OwnR.lt {okv:Value→Bool} {w:World} {base:Nat} {e:TypeId} {size n g cap:Nat} {xs:List Value} (h:OwnR okv w base e size (.slice (some ⟨g,0,none⟩) n cap) n xs):g < w.heap.size:=by
 obtain ⟨cur,hg,_⟩:=h.blk
 exact hg.lt
end Go.Proofs.YtagakcficjcfhaaGreat
