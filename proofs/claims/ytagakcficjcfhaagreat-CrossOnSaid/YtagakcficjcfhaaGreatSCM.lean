/- What else is needed of the texts below. Conditions: as each statement has them. -/
import Derived.Below
import Derived.Deep.Draws
import Derived.IntWalk
import Derived.Laws.AppendOwnNone
import Derived.Laws.BitsAllLaws
import Derived.Laws.BytesString
import Derived.Laws.Cells
import Derived.Laws.NewBlocks
import Derived.Laws.OwnMore
import Derived.Laws.Rows
import Derived.Laws.Slices
import Derived.Lib.AppendStr
import Derived.Lib.ConvBytes
import Derived.Lib.Hide
import Derived.Maps.AppendAt
import Derived.OwnWalk
import Derived.WideShapes

namespace Go.Proofs.YtagakcficjcfhaaGreat
open Go.RowKit
/-- Mixing a word into a state. -/
def mx (s w:BitVec 64):BitVec 64:=((s ^^^ w)*11400714819323198485#64) ^^^ (((s ^^^ w)*11400714819323198485#64) >>> 32)

end Go.Proofs.YtagakcficjcfhaaGreat

namespace Go.Proofs.YtagakcficjcfhaaGreat
open Go.RowKit

end Go.Proofs.YtagakcficjcfhaaGreat

namespace Go.Proofs.YtagakcficjcfhaaGreat
open Go.RowKit

end Go.Proofs.YtagakcficjcfhaaGreat

namespace Go.Proofs.YtagakcficjcfhaaGreat
open Go.RowKit

section
variable {k:IntKind} {w w':World} {B B':Nat} {sv:Value} {xs:List Int}
end
end Go.Proofs.YtagakcficjcfhaaGreat

namespace Go.Proofs.YtagakcficjcfhaaGreat
open Go.RowKit

section
variable {t t':Nat→Prop} {w w' w'':World}
end

section
variable {k:IntKind} {w w':World} {ok ok' t:Nat→Prop} {sv:Value} {xs:List Int} {B:Nat}
end

end Go.Proofs.YtagakcficjcfhaaGreat

namespace Go.Proofs.YtagakcficjcfhaaGreat

section
variable {B:Nat}
end
end Go.Proofs.YtagakcficjcfhaaGreat

namespace Go.Proofs.YtagakcficjcfhaaGreat

end Go.Proofs.YtagakcficjcfhaaGreat

namespace Go.Proofs.YtagakcficjcfhaaGreat

end Go.Proofs.YtagakcficjcfhaaGreat

namespace Go.Proofs.YtagakcficjcfhaaGreat
open Go.RowKit

section
variable {k:IntKind} {ok ok':Nat→Prop} {w w':World} {v:Value} {l:List Nat} {a:Option Addr} {n c:Nat}
end
section
variable {k:IntKind} {w w':World} {g:Nat} {t:TypeId} {l:List Nat}
end
end Go.Proofs.YtagakcficjcfhaaGreat

namespace Go.Proofs.YtagakcficjcfhaaGreat

section
variable {B:Nat} {la lb o:List Nat} {i k c:Nat}
end
end Go.Proofs.YtagakcficjcfhaaGreat

namespace Go.Proofs.YtagakcficjcfhaaGreat

section
variable {B:Nat}
end
end Go.Proofs.YtagakcficjcfhaaGreat

namespace Go.Proofs.YtagakcficjcfhaaGreat

section
variable {B x b m n nq j:Nat} {r oq:List Nat}
end
end Go.Proofs.YtagakcficjcfhaaGreat

namespace Go.Proofs.YtagakcficjcfhaaGreat
end Go.Proofs.YtagakcficjcfhaaGreat

