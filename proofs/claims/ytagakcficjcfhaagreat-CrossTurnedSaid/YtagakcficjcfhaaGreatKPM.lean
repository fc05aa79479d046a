/- Contracts of the program's points: Mid's closure. Conditions: as each statement has them. -/
import Derived.Test.YtagakcficjcfhaaGreatKPF
namespace Go.Proofs.YtagakcficjcfhaaGreat
set_option maxRecDepth 100000
set_option maxHeartbeats 12800000
open Go.RowKit
attribute [local go_sem ↓] Go.wp_at_zero Go.wp_at_succ
def mdC (p q r s:Int):Int:=if adC p q r s=0 then dvC (adP p q r s) (adQ p q r s) 2 1 else adC p q r s
/-- Block b is just sixteen cells. -/
def P16 (t:TypeId) (w:World) (b:Nat) (x0 x1 x2 x3 x4 x5 x6 x7 x8 x9 x10 x11 x12 x13 x14 x15:Value):Prop:=w.heap[b]?=some (.cells #[x0,x1,x2,x3,x4,x5,x6,x7,x8,x9,x10,x11,x12,x13,x14,x15] t (0,0))
section
variable {t:TypeId} {w w':World} {b:Nat} {x0 x1 x2 x3 x4 x5 x6 x7 x8 x9 x10 x11 x12 x13 x14 x15:Value}
theorem P16.lt (h:P16 t w b x0 x1 x2 x3 x4 x5 x6 x7 x8 x9 x10 x11 x12 x13 x14 x15):b < w.heap.size:=(Array.getElem?_eq_some_iff.1 h).1
theorem P16.cells (h:P16 t w b x0 x1 x2 x3 x4 x5 x6 x7 x8 x9 x10 x11 x12 x13 x14 x15):(w.cell? ⟨b,0,none⟩=some x0∧w.cell? ⟨b,1,none⟩=some x1∧w.cell? ⟨b,2,none⟩=some x2∧w.cell? ⟨b,3,none⟩=some x3)∧(w.cell? ⟨b,4,none⟩=some x4∧w.cell? ⟨b,5,none⟩=some x5∧w.cell? ⟨b,6,none⟩=some x6∧w.cell? ⟨b,7,none⟩=some x7)∧(w.cell? ⟨b,8,none⟩=some x8∧w.cell? ⟨b,9,none⟩=some x9∧w.cell? ⟨b,10,none⟩=some x10∧w.cell? ⟨b,11,none⟩=some x11)∧(w.cell? ⟨b,12,none⟩=some x12∧w.cell? ⟨b,13,none⟩=some x13∧w.cell? ⟨b,14,none⟩=some x14∧w.cell? ⟨b,15,none⟩=some x15):=by
 unfold P16 at h
 refine ⟨⟨?_,?_,?_,?_⟩,⟨?_,?_,?_,?_⟩,⟨?_,?_,?_,?_⟩,?_,?_,?_,?_⟩ <;> simp [World.cell?,h]
theorem P16.new (h:P16 t w b x0 x1 x2 x3 x4 x5 x6 x7 x8 x9 x10 x11 x12 x13 x14 x15) (hb:Below w.heap.size w w'):P16 t w' b x0 x1 x2 x3 x4 x5 x6 x7 x8 x9 x10 x11 x12 x13 x14 x15:=(hb.block b h.lt).trans h
theorem P16.lit (w:World) (t:TypeId) (x0 x1 x2 x3 x4 x5 x6 x7 x8 x9 x10 x11 x12 x13 x14 x15:Value):P16 t (w.alloc (.cells #[x0,x1,x2,x3,x4,x5,x6,x7,x8,x9,x10,x11,x12,x13,x14,x15] t)) w.heap.size x0 x1 x2 x3 x4 x5 x6 x7 x8 x9 x10 x11 x12 x13 x14 x15:=heap_alloc_new w _
end
/-- The middle of two points (p/q, u/v) and (p'/q', u'/v'). -/
def meK (p q p' q' u v u' v':Int):Prop:=mdC p q p' q'=0∧mdC u v u' v'=0
instance (p q p' q' u v u' v':Int):Decidable (meK p q p' q' u v u' v'):=by unfold meK; infer_instance
end Go.Proofs.YtagakcficjcfhaaGreat
