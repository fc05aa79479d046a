/- Contracts: the law's points. Conditions: as each statement has them. -/
import Derived.Test.YtagakcficjcfhaaGreatQL
import Derived.Test.YtagakcficjcfhaaGreatEA
import Derived.Test.YtagakcficjcfhaaGreatEO
namespace Go.Proofs.YtagakcficjcfhaaGreat
set_option maxRecDepth 100000
set_option maxHeartbeats 12800000
open Go.RowKit
attribute [local go_sem ↓] Go.wp_at_zero Go.wp_at_succ
set_option linter.unusedVariables false
set_option linter.unusedSimpArgs false
/-- A point of the law's own, perhaps a middle. -/
def Pq (X Y D:Int):Prop:=(0 < D∧D≤576)∧(-19200≤X∧X≤19200)∧(-19200≤Y∧Y≤19200)
theorem OwnR.ge {okv:Value→Bool} {w:World} {base:Nat} {e:TypeId} {size n g cap:Nat} {xs:List Value} (h:OwnR okv w base e size (.slice (some ⟨g,0,none⟩) n cap) n xs):base≤g:=by
 obtain ⟨cur,hg,c4,hbg,_⟩:=h.blk
 exact hbg
theorem OwnR.lt {okv:Value→Bool} {w:World} {base:Nat} {e:TypeId} {size n g cap:Nat} {xs:List Value} (h:OwnR okv w base e size (.slice (some ⟨g,0,none⟩) n cap) n xs):g < w.heap.size:=by
 obtain ⟨cur,hg,_⟩:=h.blk
 exact hg.lt
end Go.Proofs.YtagakcficjcfhaaGreat
