/- Contracts of the program's fractions: Make, Of. Conditions: as each statement has them. -/
import Derived.Test.YtdamadkhbeonaaaFC
namespace Go.Proofs.Ytdamadkhbeonaaa
open Go.RowKit
attribute [local go_sem ↓] Go.wp_at_zero Go.wp_at_succ
theorem PF.box4 {w : World} {s s' : Bool} {A A' : Option Addr} {n c n' c' : Nat} {p q : Int} {t : TypeId} {B : Nat} {b0 b1 : Bool} {A0 A1 : Option Addr} {n0 c0 n1 c1 : Nat} (h : PF w s A n c s' A' n' c' p q) (hp : P4 t w B (.bool b0) (.slice A0 n0 c0) (.bool b1) (.slice A1 n1 c1)) (u0 u1 u2 u3 : Value) : PF ((((w.setCell ⟨B, 0, none⟩ u0).setCell ⟨B, 1, none⟩ u1).setCell ⟨B, 2, none⟩ u2).setCell ⟨B, 3, none⟩ u3) s A n c s' A' n' c' p q := ⟨PIo.box4 h.1 hp rfl rfl rfl rfl u0 u1 u2 u3, PIo.box4 h.2 hp rfl rfl rfl rfl u0 u1 u2 u3⟩
/-- The divisor, with the denominator's sign. -/
def mkD (p q : Int) : Int := if q < 0 then -((Nat.gcd p.natAbs q.natAbs : Nat) : Int) else ((Nat.gcd p.natAbs q.natAbs : Nat) : Int)
def mkP (p q : Int) : Int := if q = 0 then 0 else p / mkD p q
def mkQ (p q : Int) : Int := if q = 0 then 1 else q / mkD p q
end Go.Proofs.Ytdamadkhbeonaaa
