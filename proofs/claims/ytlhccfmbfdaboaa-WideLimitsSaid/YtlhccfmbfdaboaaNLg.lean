/- The walk of WideOrder: the law returns true for every input; what lay lies as it lay. -/
import Derived.Test.YtlhccfmbfdaboaaB7
import Derived.Deep.DeepCutAuto
namespace Go.Proofs.Ytlhccfmbfdaboaa
open Go.RowKit
attribute [local go_sem ↓] Go.wp_at_zero Go.wp_at_succ
/-- A block whose first k structs of two cells are integers of the reference. -/
def Elems (w : World) (B k m : Nat) : Prop := ∀ i, i < k → ∃ (y : Int) (s : Bool) (A : Option Addr) (n c : Nat), w.cell? ⟨B, i * 2, none⟩ = some (.bool s) ∧ w.cell? ⟨B, i * 2 + 1, none⟩ = some (.slice A n c) ∧ RN w s A n c y ∧ y.natAbs < B2 m
theorem Elems.new {w w' : World} {B k m : Nat} (h : Elems w B k m) (hb : Below w.heap.size w w') : Elems w' B k m := by
  intro i hi
  obtain ⟨y, s, A, n, c, h1, h2, h3, h4⟩ := h i hi
  exact ⟨y, s, A, n, c, (hb.cell (World.block_lt_of_cell? w _ h1)).trans h1, (hb.cell (World.block_lt_of_cell? w _ h2)).trans h2, h3.new hb, h4⟩
theorem elems_lit3 {w : World} {t : TypeId} {s0 s1 s2 : Bool} {A0 A1 A2 : Option Addr} {n0 n1 n2 c0 c1 c2 m : Nat} {y0 y1 y2 : Int} (h0 : RN w s0 A0 n0 c0 y0) (g0 : y0.natAbs < B2 m) (h1 : RN w s1 A1 n1 c1 y1) (g1 : y1.natAbs < B2 m) (h2 : RN w s2 A2 n2 c2 y2) (g2 : y2.natAbs < B2 m) :
    Elems (w.alloc (.cells #[.bool s0, .slice A0 n0 c0, .bool s1, .slice A1 n1 c1, .bool s2, .slice A2 n2 c2] t)) w.heap.size 3 m := by
  have hb : Below w.heap.size w (w.alloc (.cells #[.bool s0, .slice A0 n0 c0, .bool s1, .slice A1 n1 c1, .bool s2, .slice A2 n2 c2] t)) := (Below.refl _ _).alloc (Nat.le_refl _) _
  have hh := heap_alloc_new w (.cells #[.bool s0, .slice A0 n0 c0, .bool s1, .slice A1 n1 c1, .bool s2, .slice A2 n2 c2] t)
  intro i hi
  match i, hi with
  | 0, _ => exact ⟨y0, s0, A0, n0, c0, (cell_of_row _ _ _ _ t (0, 0) hh).trans rfl, (cell_of_row _ _ _ _ t (0, 0) hh).trans rfl, h0.new hb, g0⟩
  | 1, _ => exact ⟨y1, s1, A1, n1, c1, (cell_of_row _ _ _ _ t (0, 0) hh).trans rfl, (cell_of_row _ _ _ _ t (0, 0) hh).trans rfl, h1.new hb, g1⟩
  | 2, _ => exact ⟨y2, s2, A2, n2, c2, (cell_of_row _ _ _ _ t (0, 0) hh).trans rfl, (cell_of_row _ _ _ _ t (0, 0) hh).trans rfl, h2.new hb, g2⟩
theorem RN.zero (w : World) : RN w false none 0 0 0 := ⟨rfl, by rw [Int.natAbs_zero, digs_zero]; rfl, by rw [Int.natAbs_zero, digs_zero]; exact LO.nil⟩
theorem B2.unit {k : Int} (h : -1 ≤ k ∧ k ≤ 1) : k.natAbs < B2 4 := by
  have : B2 4 = 16 := rfl
  omega
end Go.Proofs.Ytlhccfmbfdaboaa
