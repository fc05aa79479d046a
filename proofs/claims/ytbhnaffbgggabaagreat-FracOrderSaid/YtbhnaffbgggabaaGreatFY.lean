/- Small helpers of the fractions: codes, and states of a region by name. Conditions: as each statement has them. -/
import Derived.Test.YtbhnaffbgggabaaGreatFB
namespace Go.Proofs.YtbhnaffbgggabaaGreat
open Go.RowKit
attribute [local go_sem ↓] Go.wp_at_zero Go.wp_at_succ
theorem outV_lim (x : Int) : (outV x).natAbs < lim := by
 unfold outV
 split
 ·assumption
 ·rw [lim_two]; exact Nat.pow_pos (by decide)
theorem dn_lim {q : Int} (h : q.natAbs < lim) : (dn q).natAbs < lim := by
 unfold dn
 split
 ·rw [lim_two]; exact Nat.pow_pos (by decide)
 ·exact h
theorem wpAnyH_name {P : Program} {md : Region.Mode} {ops : Array Oper} {Q : Exit → Act → World → Prop} {S : World → Prop} {fuel : Nat} {L : Array Bool} {a : Act} {w : World} (h : ∀ F : Nat → Array Bool → Act → World → Prop, F = wpAnyH P md ops Q S → ∀ a0, a0 = a → ∀ L0, L0 = L → F fuel L0 a0 w) : wpAnyH P md ops Q S fuel L a w := h _ rfl _ rfl _ rfl
theorem wpAnyH_cast {P : Program} {md : Region.Mode} {ops : Array Oper} {Q : Exit → Act → World → Prop} {S : World → Prop} {fuel : Nat} {L L' : Array Bool} {a : Act} {w : World} (e : L = L') (h : wpAnyH P md ops Q S fuel L' a w) : wpAnyH P md ops Q S fuel L a w := e ▸ h
theorem codes_lit2 {w : World} {t : TypeId} (a b : Int) : Codes (w.alloc (.cells #[.int .i64 a, .int .i64 b] t)) w.heap.size [a, b] := by
 have hh := (P2.lit w t (.int .i64 a) (.int .i64 b)).cells
 intro i hi
 match i, hi with
 | 0, _ => exact hh.1
 | 1, _ => exact hh.2
theorem cmpI_lt' {a b : Int} (h : a < b) : cmpI a b = -1 := cmpI_less h
theorem cmpI_gt' {a b : Int} (h : b < a) : cmpI a b = 1 := by unfold cmpI; rw [if_neg (by omega), if_pos h]
theorem cmpI_add {a b c : Int} : cmpI (c + a) (c + b) = cmpI a b := by
 unfold cmpI
 split <;> split <;> (try split) <;> (try split) <;> omega
theorem cmpI_mul {a b c : Int} (hc : 0 < c) : cmpI (a * c) (b * c) = cmpI a b := by
 rcases Int.lt_trichotomy a b with h | h | h
 ·rw [cmpI_lt' h, cmpI_lt' (Int.mul_lt_mul_of_pos_right h hc)]
 ·rw [h, cmpI_same rfl, cmpI_same rfl]
 ·rw [cmpI_gt' h, cmpI_gt' (Int.mul_lt_mul_of_pos_right h hc)]
end Go.Proofs.YtbhnaffbgggabaaGreat
