/- Contracts of the program's fractions: commonDivisor, product. Conditions: as each statement has them. -/
import Derived.Test.YtdamadkhbeonaaaFB
namespace Go.Proofs.Ytdamadkhbeonaaa
open Go.RowKit
attribute [local go_sem ↓] Go.wp_at_zero Go.wp_at_succ
/-- A row of the program's integers. -/
def Pel (w : World) (B : Nat) (ys : List Int) : Prop := ∀ i (hi : i < ys.length), ∃ (s : Bool) (A : Option Addr) (n c : Nat), w.cell? ⟨B, i * 2, none⟩ = some (.bool s) ∧ w.cell? ⟨B, i * 2 + 1, none⟩ = some (.slice A n c) ∧ PI w s A n c ys[i] ∧ ys[i].natAbs < lim
theorem Pel.new {w w' : World} {B : Nat} {ys : List Int} (h : Pel w B ys) (hb : Below w.heap.size w w') : Pel w' B ys := by
 intro i hi
 obtain ⟨s, A, n, c, h1, h2, h3, h4⟩ := h i hi
 exact ⟨s, A, n, c, (hb.cell (World.block_lt_of_cell? w _ h1)).trans h1, (hb.cell (World.block_lt_of_cell? w _ h2)).trans h2, PIo.new h3 hb, h4⟩
/-- A row in a block of its own keeps where another block of no integers is written. -/
theorem Pel.box {w : World} {B : Nat} {ys : List Int} {t : TypeId} {g : Nat} {b0 : Bool} {A0 : Option Addr} {n0 c0 : Nat} (h : Pel w B ys) (hp : P2 t w g (.bool b0) (.slice A0 n0 c0)) (hg : B ≠ g) (u0 u1 : Value) : Pel ((w.setCell ⟨g, 0, none⟩ u0).setCell ⟨g, 1, none⟩ u1) B ys := by
 intro i hi
 obtain ⟨s, A, n, c, h1, h2, h3, h4⟩ := h i hi
 have far : ∀ j v, w.cell? ⟨B, j, none⟩ = some v → ((w.setCell ⟨g, 0, none⟩ u0).setCell ⟨g, 1, none⟩ u1).cell? ⟨B, j, none⟩ = some v := fun j v hv => by
  rw [World.cell?_setCell_far _ _ _ _ (fun e => hg e.symm), World.cell?_setCell_far _ _ _ _ (fun e => hg e.symm)]
  exact hv
 exact ⟨s, A, n, c, far _ _ h1, far _ _ h2, PIo.box h3 hp rfl rfl u0 u1, h4⟩
end Go.Proofs.Ytdamadkhbeonaaa
