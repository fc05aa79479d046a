/- Lists of points in memory; the program against the reference: Whole, Round. -/
import Derived.Test.YtfmccalkfagafaaZQF
import Derived.Test.YtfmccalkfagafaaZPQ
namespace Go.Proofs.Ytfmccalkfagafaa
open Go.RowKit
attribute [local go_sem ↓] Go.wp_at_zero Go.wp_at_succ
/-- Block b is just these cells, none frozen. -/
def BK (t : TypeId) (w : World) (b : Nat) (cs : Array Value) : Prop := w.heap[b]? = some (.cells cs t (0, 0))
theorem BK.lit (w : World) (t : TypeId) (cs : Array Value) : BK t (w.alloc (.cells cs t)) w.heap.size cs := heap_alloc_new w _
theorem BK.lt {t : TypeId} {w : World} {b : Nat} {cs : Array Value} (h : BK t w b cs) : b < w.heap.size := (Array.getElem?_eq_some_iff.1 h).1
theorem BK.new {t : TypeId} {w w' : World} {b : Nat} {cs : Array Value} (h : BK t w b cs) (hb : Below w.heap.size w w') : BK t w' b cs := (hb.block b h.lt).trans h
end Go.Proofs.Ytfmccalkfagafaa
