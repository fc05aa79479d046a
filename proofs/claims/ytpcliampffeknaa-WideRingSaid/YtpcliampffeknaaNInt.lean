/- Integers with sign and digits: quotient and rest with a rest from 0 on, the greatest common divisor, bounds. No import of the program. -/
import Derived.Test.YtpcliampffeknaaNText
namespace Go.Proofs.Ytpcliampffeknaa

/-- Quotient and rest for a positive divisor, from those of the absolute values. -/
theorem div_pos_of (a : Int) (b q0 r0 : Nat) (hb : 0 < b) (h : a.natAbs = q0 * b + r0) (hr : r0 < b) :
    a / (b : Int) = (if a < 0 then -(q0 : Int) + (if r0 = 0 then 0 else -1) else (q0 : Int)) ∧ a % (b : Int) = (if a < 0 then (if r0 = 0 then 0 else (b : Int) - r0) else (r0 : Int)) := by
  have hm : ((q0 * b : Nat) : Int) = (b : Int) * q0 := by rw [Int.natCast_mul, Int.mul_comm]
  have hb' : (0 : Int) < b := by omega
  rw [Int.ediv_emod_unique hb']
  split
  · split
    · rename_i h1 h2
      subst h2
      refine ⟨?_, by omega, by omega⟩
      rw [Int.add_zero, Int.mul_neg]
      omega
    · rename_i h1 h2
      refine ⟨?_, by omega, by omega⟩
      rw [Int.mul_add, Int.mul_neg, Int.mul_neg, Int.mul_one]
      omega
  · refine ⟨?_, by omega, by omega⟩
    omega
/-- The same for a divisor of any sign. -/
theorem div_of (a b : Int) (q0 r0 : Nat) (h : a.natAbs = q0 * b.natAbs + r0) (hr : r0 < b.natAbs) :
    a / b = (if (a < 0) ↔ (b < 0) then (q0 : Int) else -(q0 : Int)) + (if a < 0 ∧ r0 ≠ 0 then (if b < 0 then 1 else -1) else 0) ∧
    a % b = (if a < 0 ∧ r0 ≠ 0 then (b.natAbs : Int) - r0 else (r0 : Int)) := by
  obtain ⟨h1, h2⟩ := div_pos_of a b.natAbs q0 r0 (by omega) h hr
  by_cases hn : b < 0
  · have e : b = -(b.natAbs : Int) := by omega
    have e1 : a / b = -(a / (b.natAbs : Int)) := by
      rw [← Int.ediv_neg, ← e]
    have e2 : a % b = a % (b.natAbs : Int) := by
      have := Int.emod_neg a (b.natAbs : Int)
      rw [← e] at this
      exact this
    rw [e1, e2, h1, h2]
    by_cases ha : a < 0 <;> by_cases h0 : r0 = 0 <;> simp [ha, h0, hn] <;> omega
  · have e : b = (b.natAbs : Int) := by omega
    have e1 : a / b = a / (b.natAbs : Int) := by rw [← e]
    have e2 : a % b = a % (b.natAbs : Int) := by rw [← e]
    rw [e1, e2, h1, h2]
    by_cases ha : a < 0 <;> by_cases h0 : r0 = 0 <;> simp [ha, h0, hn]
/-- The digit of a quotient by halving: lo is the greatest t with t * b ≤ x. -/
theorem half_done {b x lo : Nat} (h1 : lo * b ≤ x) (h2 : x < (lo + 1) * b) : lo = x / b ∧ x - lo * b = x % b := by
  have e : x / b = lo := Nat.div_eq_of_lt_le h1 h2
  refine ⟨e.symm, ?_⟩
  have := Nat.div_add_mod x b
  rw [e, Nat.mul_comm] at this
  omega
theorem gcd_step (x y : Nat) : Nat.gcd x y = Nat.gcd y (x % y) := by rw [Nat.gcd_comm, Nat.gcd_rec, Nat.gcd_comm]
end Go.Proofs.Ytpcliampffeknaa
